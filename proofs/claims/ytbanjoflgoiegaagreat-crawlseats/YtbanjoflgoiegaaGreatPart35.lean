/-
  MindsFoe MindsNear MindsBag GoodsLayGo
-/
import Derived.Test.YtbanjoflgoiegaaGreatPart30
import Derived.BigQuiet
import Derived.Deep.Cut
import Derived.Deep.CutRange
import Derived.Deep.CutBlock
import Derived.Deep.RegionHeld3
import Derived.Test.YtbanjoflgoiegaaGreatPart29
namespace Go.Proofs.YtbanjoflgoiegaaGreat
open Go.RowKit

theorem Lie.elevenInts {x : World} {B : Nat} {T : TypeId} {e : Nat → Int} (h : Lie x B T 11 (Ints e)) :
    x.cell? ⟨B, 0, none⟩ = some (.int .i64 (e 0)) ∧ x.cell? ⟨B, 1, none⟩ = some (.int .i64 (e 1)) ∧ x.cell? ⟨B, 2, none⟩ = some (.int .i64 (e 2)) ∧ x.cell? ⟨B, 3, none⟩ = some (.int .i64 (e 3)) ∧ x.cell? ⟨B, 4, none⟩ = some (.int .i64 (e 4)) ∧ x.cell? ⟨B, 5, none⟩ = some (.int .i64 (e 5)) ∧ x.cell? ⟨B, 6, none⟩ = some (.int .i64 (e 6)) ∧ x.cell? ⟨B, 7, none⟩ = some (.int .i64 (e 7)) ∧ x.cell? ⟨B, 8, none⟩ = some (.int .i64 (e 8)) ∧ x.cell? ⟨B, 9, none⟩ = some (.int .i64 (e 9)) ∧ x.cell? ⟨B, 10, none⟩ = some (.int .i64 (e 10)) :=
  ⟨h.cell (c := 0) (by omega), h.cell (c := 1) (by omega), h.cell (c := 2) (by omega), h.cell (c := 3) (by omega), h.cell (c := 4) (by omega), h.cell (c := 5) (by omega), h.cell (c := 6) (by omega), h.cell (c := 7) (by omega), h.cell (c := 8) (by omega), h.cell (c := 9) (by omega), h.cell (c := 10) (by omega)⟩

set_option maxRecDepth 8000 in
set_option maxHeartbeats 3200000 in
theorem mFoe_any (E : Nat → Nat → Int) (e : Nat → Int) (gE cE : Nat) (w : World) (hE : Own w gE 32 E) (hcE : 32 ≤ cE) (x0 : 0 ≤ e 3) (x9 : e 3 < 24) (y0 : 0 ≤ e 4) (y9 : e 4 < 16) :
    Calls Tryz.prog 228 #[.slice (some ⟨gE, 0, none⟩) 32 cE, .agg (En.cells e)] w (Says w (.int .i64 (Nv.wayFrom (Md.foe E (e 3) (e 4)) 4 1))) := by
  obtain ⟨w0, hw0⟩ : ∃ w0, w0 = w.alloc (.cells (En.cells e) 54) := ⟨_, rfl⟩
  have hg0 : Hid (w.grownBy w0 none) := by rw [hw0]; exact World.grownBy_alloc _ _ _
  have hQ : Hid (Lie w0 w.heap.size 54 11 (Ints e)) := by rw [hw0]; exact Lie.copied _ _ _
  have hE0 := hide (hE.ents.on (unhide hg0))
  have ca : Hid (∀ (d : Nat) (wq : World), Calls Tryz.prog 220 #[.agg (En.cells e), .int .i64 (d : Int)] wq fun x w' => (∃ a b, x = .returned (.complex .f64 a b) ∧ Fl.Rep a (e 3 + (Fx.way (d : Int)).1) ∧ Fl.Rep b (e 4 + (Fx.way (d : Int)).2)) ∧ wq.grownBy w' none) := fun d wq => mAhead_any e d wq x0 x9 y0 y9
  have hcE' := hide hcE
  obtain ⟨x, hx⟩ : ∃ x, e 3 = x := ⟨_, rfl⟩
  obtain ⟨y, hy⟩ : ∃ y, e 4 = y := ⟨_, rfl⟩
  have hK : Hid (∀ z, w0.grownBy z none → z.cell? ⟨w.heap.size, 0, none⟩ = some (.int .i64 (e 0)) ∧ z.cell? ⟨w.heap.size, 1, none⟩ = some (.int .i64 (e 1)) ∧ z.cell? ⟨w.heap.size, 2, none⟩ = some (.int .i64 (e 2)) ∧ z.cell? ⟨w.heap.size, 3, none⟩ = some (.int .i64 x) ∧ z.cell? ⟨w.heap.size, 4, none⟩ = some (.int .i64 y) ∧ z.cell? ⟨w.heap.size, 5, none⟩ = some (.int .i64 (e 5)) ∧ z.cell? ⟨w.heap.size, 6, none⟩ = some (.int .i64 (e 6)) ∧ z.cell? ⟨w.heap.size, 7, none⟩ = some (.int .i64 (e 7)) ∧ z.cell? ⟨w.heap.size, 8, none⟩ = some (.int .i64 (e 8)) ∧ z.cell? ⟨w.heap.size, 9, none⟩ = some (.int .i64 (e 9)) ∧ z.cell? ⟨w.heap.size, 10, none⟩ = some (.int .i64 (e 10))) := fun z hz => by
    rw [← hx, ← hy]
    exact ((unhide hQ).on hz).elevenInts
  unfold En.cells at hw0 ca ⊢
  rw [hx, hy] at ca
  rw [hx] at x0 x9
  rw [hy] at y0 y9
  rw [hx, hy] at hw0 ⊢
  clear hQ hE hcE hx hy
  go_enter Tryz.func228, Tryz.ntmps228
  go_upto_region 1 with fail
  rw [← hw0]
  clear hw0
  obtain ⟨B, hB⟩ : ∃ B, w.heap.size = B := ⟨_, rfl⟩
  rw [hB] at hK ⊢
  clear hB
  go_wp2_with fail
  go_loopw [5, 6, 7, 8] (fun v5 v6 v7 v8 wr => ∃ d : Nat, 1 ≤ d ∧ d ≤ 5 ∧ v5 = .int .i64 (d : Int) ∧ Hid (w0.grownBy wr none) ∧ Hid (∀ j, 1 ≤ j → j < d → Md.foe E x y j = false)) (fun v5 _ _ _ _ => 10 - (intOf v5).toNat)
  case atStart => exact ⟨1, by omega, by omega, rfl, World.grownBy.refl _ _, fun j h1 h2 => by omega⟩
  case round =>
    obtain ⟨d, hd1, hd5, rfl, hgr, hno⟩ := hrel
    by_cases hlt : d ≤ 4
    · have hlt' : (d : Int) ≤ 4 := by omega
      have HD := hide (show 1 ≤ d ∧ d ≤ 4 from ⟨hd1, hlt⟩)
      obtain ⟨s1, s2, s3, s4⟩ := Md.way_small d
      have cat : Hid (∀ z, w0.grownBy z none → Calls Tryz.prog 102 #[.slice (some ⟨gE, 0, none⟩) 32 cE, .int .i64 (x + (Fx.way (d : Int)).1), .int .i64 (y + (Fx.way (d : Int)).2)] z (Says z (.int .i64 (Md.who E x y d)))) := fun z hz => entAt_any gE 32 cE E _ _ z ((unhide hE0).on hz) (unhide hcE')
      have hwho := hide (@Md.who_row E x y d)
      have hfd : Hid (Md.foe E x y d = (decide (0 ≤ Md.who E x y d) && !(decide (E (Md.who E x y d).toNat 0 = 1)))) := rfl
      have cad := hide (fun wq => unhide ca d wq)
      obtain ⟨X, hX⟩ : ∃ X, x + (Fx.way (d : Int)).1 = X := ⟨_, rfl⟩
      obtain ⟨Y, hY⟩ : ∃ Y, y + (Fx.way (d : Int)).2 = Y := ⟨_, rfl⟩
      obtain ⟨h, hh⟩ : ∃ z, Md.who E x y d = z := ⟨_, rfl⟩
      have bX : -1 ≤ X ∧ X ≤ 24 := by omega
      have bY : -1 ≤ Y ∧ Y ≤ 16 := by omega
      rw [hX, hY] at cad cat
      rw [hh] at cat hwho hfd
      clear hX hY hh s1 s2 s3 s4 hd1 hd5 hlt x0 x9 y0 y9
      obtain ⟨k0, k1, k2, k3, k4, k5, k6, k7, k8, k9, k10⟩ := unhide hK _ (unhide hgr)
      go_wp2_with fail
      refine (unhide cad _).mono ?_
      rintro xx w1 ⟨⟨a, b, rfl, Ra, Rb⟩, hg⟩
      have hg1 := hide (grown_trans (unhide hgr) hg)
      have cp := hide (fun wq => mParts_any a b X Y wq Ra Rb (by omega) (by omega) (by omega) (by omega))
      clear hg Ra Rb k0 k1 k2 k3 k4 k5 k6 k7 k8 k9 k10 bX bY
      go_wp2_with fail
      refine (unhide cp _).mono ?_
      rintro xx wy ⟨rfl, hw⟩
      subst wy
      clear cp
      go_wp2_with fail
      refine (unhide cat _ (unhide hg1)).mono ?_
      rintro xx w2 ⟨rfl, hg⟩
      have hg2 := hide (grown_trans (unhide hg1) hg)
      clear hg cat cad
      rcases unhide hwho with rfl | ⟨j, hj, rfl⟩
      · have hf : Hid (Md.foe E x y d = false) := (show Md.foe E x y d = false by rw [unhide hfd]; rfl)
        clear hfd hwho
        go_wp2
        go_roundw
        case rel => exact ⟨d + 1, by omega, by have := unhide HD; omega, by go_num, hg2, fun j h1 h2 => by
          by_cases e : j = d
          · rw [e]; exact unhide hf
          · exact unhide hno j h1 (by omega)⟩
        case measure => simp [intOf]; have := unhide HD; omega
      · have u0 := (((unhide hE0).on (unhide hg2)).row hj).1
        have hj' : (j : Int) < 32 := by omega
        rw [Int.toNat_natCast] at hfd
        by_cases h1 : E j 0 = 1
        · have hf : Hid (Md.foe E x y d = false) := (show Md.foe E x y d = false by rw [unhide hfd, h1]; simp)
          rw [h1] at u0
          clear hfd hwho h1 hj
          go_wp2
          go_roundw
          case rel => exact ⟨d + 1, by omega, by have := unhide HD; omega, by go_num, hg2, fun j h1 h2 => by
            by_cases e : j = d
            · rw [e]; exact unhide hf
            · exact unhide hno j h1 (by omega)⟩
          case measure => simp [intOf]; have := unhide HD; omega
        · have hf : Hid (Md.foe E x y d = true) := (show Md.foe E x y d = true by rw [unhide hfd]; simp [h1])
          have h1' : (E j 0 == 1) = false := by simpa using h1
          have hw : Hid (Nv.wayFrom (Md.foe E x y) 4 1 = (d : Int)) := Nv.way_hit 4 d 1 (unhide hno) (unhide hf) (unhide HD).1 (by have := (unhide HD).2; omega)
          have hfin : Hid (Says w (.int .i64 (Nv.wayFrom (Md.foe E x y) 4 1)) (.returned (.int .i64 (d : Int))) w2) := ⟨by rw [unhide hw], grown_trans (unhide hg0) (unhide hg2)⟩
          clear hfd hwho h1 hj hw hf
          go_wp2
          go_ret
          exact unhide hfin
    · obtain rfl : d = 5 := by omega
      have hge : ¬ ((5 : Nat) : Int) ≤ 4 := by omega
      have hw : Hid (Nv.wayFrom (Md.foe E x y) 4 1 = 0) := Nv.way_none 4 1 fun j h1 h2 => unhide hno j h1 (by omega)
      have hfin : Hid (Says w (.int .i64 (Nv.wayFrom (Md.foe E x y) 4 1)) (.returned (.int .i64 0)) wr) := ⟨by rw [unhide hw], grown_trans (unhide hg0) (unhide hgr)⟩
      clear hlt hd1 hd5 hno hw
      go_wp2
      go_ret
      exact unhide hfin

end Go.Proofs.YtbanjoflgoiegaaGreat

namespace Go.Proofs.YtbanjoflgoiegaaGreat
open Go.RowKit

theorem Fx.root_nat : ∀ n : Nat, ∃ r : Nat, r * r ≤ n ∧ n < (r + 1) * (r + 1)
  | 0 => ⟨0, by omega, by omega⟩
  | n + 1 => by
    obtain ⟨r, h1, h2⟩ := Fx.root_nat n
    by_cases h : n + 1 < (r + 1) * (r + 1)
    · exact ⟨r, by omega, h⟩
    · refine ⟨r + 1, by omega, ?_⟩
      have h3 : (r + 1 + 1) * (r + 1 + 1) = (r + 1) * (r + 1) + (2 * r + 3) := by
        simp only [Nat.add_mul, Nat.mul_add, Nat.one_mul, Nat.mul_one]
        omega
      omega

theorem Fx.root_is (n : Int) (h : 0 ≤ n) : ∃ r, Fx.isRoot n r := by
  obtain ⟨r, h1, h2⟩ := Fx.root_nat n.toNat
  refine ⟨(r : Int), by omega, ?_, ?_⟩
  · have : ((r * r : Nat) : Int) ≤ n := by omega
    rwa [Int.natCast_mul] at this
  · have : n < (((r + 1) * (r + 1) : Nat) : Int) := by omega
    rw [Int.natCast_mul] at this
    exact this

theorem Md.square_pos (a b : Int) : 0 ≤ (a * a + b * b) * 65536 := by
  have sq : ∀ z : Int, 0 ≤ z * z := fun z => by
    rcases Int.le_total 0 z with h | h
    · exact Int.mul_nonneg h h
    · rw [← Int.neg_mul_neg]
      exact Int.mul_nonneg (by omega) (by omega)
  have h1 := sq a
  have h2 := sq b
  omega

def Md.NearSays (w : World) (c : Nat → Int) (E : Nat → Nat → Int) (x y : Int) (e : Ending) (w' : World) : Prop := ∃ b a, Md.Seen c E x y 4 b a ∧ (a = -1 ∨ ∃ h : Nat, h < 32 ∧ a = (h : Int) ∧ E h 0 = 1) ∧ e = .returned (.int .i64 a) ∧ w.grownBy w' none

def Md.Least (a b L : Int) : Prop := (a = -1 ∧ L = 1537) ∨ (0 ≤ a ∧ L = b ∧ b ≤ 1536)

set_option maxRecDepth 8000 in
set_option maxHeartbeats 12800000 in
theorem mNearest_any (s g c : Nat → Int) (E I : Nat → Nat → Int) (e : Nat → Int) (gC gE gI cC cE cI : Nat) (w : World) (hL : Gd.Lists w gC gE gI c E I) (hc : ∀ i, 0 ≤ c i ∧ c i ≤ 255) (hcE : 32 ≤ cE) (hE : Md.Fine E) (x0 : 0 ≤ e 3) (x9 : e 3 < 24) (y0 : 0 ≤ e 4) (y9 : e 4 < 16) :
    Calls Tryz.prog 212 #[.agg (Gd.world s gC gE gI cC cE cI g), .agg (En.cells e)] w (Md.NearSays w c E (e 3) (e 4)) := by
  obtain ⟨wz, hwz⟩ : ∃ wz, wz = w.alloc (.cells (Gd.world s gC gE gI cC cE cI g) 30) := ⟨_, rfl⟩
  obtain ⟨w0, hw0⟩ : ∃ w0, w0 = wz.alloc (.cells (En.cells e) 54) := ⟨_, rfl⟩
  have hgz : w.grownBy wz none := by rw [hwz]; exact World.grownBy_alloc _ _ _
  have hg0 : wz.grownBy w0 none := by rw [hw0]; exact World.grownBy_alloc _ _ _
  have hO : Hid (Gd.Shown w w0 w.heap.size gC gE gI cC cE cI s g c E I) := by
    refine ⟨?_, hL.on (grown_trans hgz hg0), grown_trans hgz hg0⟩
    refine Lie.on ?_ hg0
    rw [hwz]
    exact (Arr.world (heap_alloc_new w _)).lie
  have hQ : Hid (Lie w0 wz.heap.size 54 11 (Ints e)) := by rw [hw0]; exact Lie.copied _ _ _
  have hsz : wz.heap.size = w.heap.size + 1 := by rw [hwz]; simp
  have hc' := hide hc
  have hcE' := hide hcE
  have hE' := hide hE
  have hxy := hide (show (0 ≤ e 3 ∧ e 3 < 24) ∧ 0 ≤ e 4 ∧ e 4 < 16 from ⟨⟨x0, x9⟩, y0, y9⟩)
  rw [hsz] at hQ
  clear hL hc hcE hE hg0 hgz x0 x9 y0 y9 hsz
  unfold Gd.world at hwz ⊢
  unfold En.cells at hw0 ⊢
  rw [hwz] at hw0
  clear hwz
  go_enter Tryz.func212, Tryz.ntmps212
  go_upto_region 1 with fail
  rw [← hw0]
  clear hw0
  obtain ⟨B, hB⟩ : ∃ B, w.heap.size = B := ⟨_, rfl⟩
  rw [hB] at hO hQ ⊢
  clear hB
  obtain ⟨Q, hQe⟩ : ∃ Q, B + 1 = Q := ⟨_, rfl⟩
  rw [hQe] at hQ ⊢
  clear hQe
  go_wp2_with fail
  go_loopw [5, 6, 7, 8, 9, 10] (fun v5 v6 _ _ _ v10 wr => ∃ (t : Nat) (b a L : Int), t ≤ 4 ∧ v5 = .int .i64 a ∧ v6 = .int .i64 L ∧ v10 = .int .i64 (t : Int) ∧ Hid (Md.Seen c E (e 3) (e 4) t b a) ∧ Hid (Md.Least a b L) ∧ Hid (a = -1 ∨ ∃ h : Nat, h < 32 ∧ a = (h : Int) ∧ E h 0 = 1) ∧ Hid (Gd.Shown w wr B gC gE gI cC cE cI s g c E I) ∧ Hid (Lie wr Q 54 11 (Ints e))) (fun _ _ _ _ _ v10 _ => 10 - (intOf v10).toNat)
  case atStart => exact ⟨0, 0, -1, 1537, by omega, rfl, rfl, rfl, ⟨rfl, rfl⟩, .inl ⟨rfl, rfl⟩, .inl rfl, hO, hQ⟩
  case round =>
    clear hO hQ
    obtain ⟨t, b, a, L, ht, rfl, rfl, rfl, hSeen, hLst, hAt, hO, hQ⟩ := hrel
    by_cases hlt : t < 4
    · have hlt' : (t : Int) < 4 := by omega
      have HT := hide hlt
      have q5 := (unhide hO).box.eleven.2.2.2.2.2.1
      have ch : Hid (Calls Tryz.prog 68 #[.slice (some ⟨gE, 0, none⟩) 32 cE, .int .i64 (t : Int)] wr (Says wr (.int .i64 (Gd.hero E (t : Int))))) := hero_any gE 32 cE E (t : Int) wr (unhide hO).lists.own.ents (unhide hcE')
      have hrow := hide (@Md.hero_row E (t : Int))
      obtain ⟨h0, hh⟩ : ∃ h, Gd.hero E (t : Int) = h := ⟨_, rfl⟩
      have hh' := hide hh
      rw [hh] at ch
      clear hh hlt ht
      go_wp2_with fail
      refine (unhide ch).mono ?_
      rintro x w3 ⟨rfl, hg⟩
      have hO3 := hide ((unhide hO).on hg)
      have hQ3 := hide ((unhide hQ).on hg)
      clear hg ch q5 hO hQ
      by_cases hneg : h0 < 0
      · have hs2 : Hid (Md.Seen c E (e 3) (e 4) (t + 1) b a) := ⟨b, a, unhide hSeen, .inl ⟨by rw [unhide hh']; exact hneg, rfl, rfl⟩⟩
        clear hrow hh'
        go_wp2_with fail
        go_quiet (fail)
        go_wp2
        go_roundw
        case rel => exact ⟨t + 1, b, a, L, by have := unhide HT; omega, rfl, rfl, by go_num, hs2, hLst, hAt, (unhide hO3).on (grown_drew (World.grownBy.refl _ none) _), (unhide hQ3).on (grown_drew (World.grownBy.refl _ none) _)⟩
        case measure => simp [intOf]; have := unhide HT; omega
      obtain ⟨h, hh32, hhe, hk1, -⟩ := unhide hrow (by rw [unhide hh']; omega)
      obtain rfl : h0 = (h : Int) := by rw [← unhide hh']; exact hhe
      obtain ⟨p0, p9, r0, r9, -, -⟩ := unhide hE' h hh32 (by omega)
      have HH := hide (show h < 32 ∧ E h 0 = 1 from ⟨hh32, hk1⟩)
      have hh3 : (h : Int) < 32 := by omega
      have hneg' : ¬ (h : Int) < 0 := by omega
      have HP := hide (show (0 ≤ E h 3 ∧ E h 3 < 24) ∧ 0 ≤ E h 4 ∧ E h 4 < 16 from ⟨⟨p0, p9⟩, r0, r9⟩)
      clear hrow hhe hk1 hneg hh32 p0 p9 r0 r9
      have cs := hide (fun z (hz : w3.grownBy z none) => sees_any (some ⟨gC, 0, none⟩) 384 cC c (e 3) (e 4) (E h 3) (E h 4) z ((unhide hO3).lists.on hz).vec (unhide hc'))
      have hdr := hide (grown_drew1 (World.grownBy.refl w3 none))
      have hkeep : Hid (∀ z, w3.grownBy z none → (z.cell? ⟨B, 4, none⟩ = some (.slice (some ⟨gC, 0, none⟩) 384 cC) ∧ z.cell? ⟨B, 5, none⟩ = some (.slice (some ⟨gE, 0, none⟩) 32 cE) ∧ z.cell? ⟨Q, 3, none⟩ = some (.int .i64 (e 3)) ∧ z.cell? ⟨Q, 4, none⟩ = some (.int .i64 (e 4)) ∧ z.cell? ⟨gE, h * 11 + 3, none⟩ = some (.int .i64 (E h 3)) ∧ z.cell? ⟨gE, h * 11 + 4, none⟩ = some (.int .i64 (E h 4)))) := fun z hz => by
        have hO5 := (unhide hO3).on hz
        have hQ5 := ((unhide hQ3).on hz).elevenInts
        have hr := hO5.lists.own.ents.row (unhide HH).1
        exact ⟨hO5.box.eleven.2.2.2.2.1, hO5.box.eleven.2.2.2.2.2.1, hQ5.2.2.2.1, hQ5.2.2.2.2.1, hr.2.2.2.1, hr.2.2.2.2.1⟩
      have hS0 := unhide hkeep w3 (World.grownBy.refl _ none)
      go_upto_region 6 with fail
      go_region_held3 (fun z => z.cell? ⟨B, 4, none⟩ = some (.slice (some ⟨gC, 0, none⟩) 384 cC) ∧ z.cell? ⟨B, 5, none⟩ = some (.slice (some ⟨gE, 0, none⟩) 32 cE) ∧ z.cell? ⟨Q, 3, none⟩ = some (.int .i64 (e 3)) ∧ z.cell? ⟨Q, 4, none⟩ = some (.int .i64 (e 4)) ∧ z.cell? ⟨gE, h * 11 + 3, none⟩ = some (.int .i64 (E h 3)) ∧ z.cell? ⟨gE, h * 11 + 4, none⟩ = some (.int .i64 (E h 4))) (go_keep) (first
        | (go_at_call 216; refine (unhide cs _ (unhide hdr)).mono ?_; rintro x w5 ⟨sb, rfl, hsb, hg⟩; have hg5 := hide (grown_trans (unhide hdr) (below_grown hg)); have hsb' := hide hsb; have hS1 := unhide hkeep _ (unhide hg5); clear hg hsb))
      have hO5 := hide ((unhide hO3).on (unhide hg5))
      have hQ5 := hide ((unhide hQ3).on (unhide hg5))
      clear hS0 hS1 hkeep hdr cs hO3 hQ3 hg5
      rw [decide_eq_false (show ¬ (h : Int) < 0 by omega), Bool.false_or]
      cases sb
      · have hs2 : Hid (Md.Seen c E (e 3) (e 4) (t + 1) b a) := by
          obtain ⟨r, hr⟩ := Fx.root_is _ (Md.square_pos (E h 3 - e 3) (E h 4 - e 4))
          exact ⟨b, a, unhide hSeen, .inr ⟨h, r, unhide hh', hr, .inr ⟨fun hT => absurd ((unhide hsb').2 hT.2.1) (by simp), rfl, rfl⟩⟩⟩
        clear hh' hsb'
        go_wp2
        go_roundw
        case rel => exact ⟨t + 1, b, a, L, by have := unhide HT; omega, rfl, rfl, by go_num, hs2, hLst, hAt, hO5, hQ5⟩
        case measure => simp [intOf]; have := unhide HT; omega
      · obtain ⟨r1, r2, hsub, R1, R2⟩ := mLess e (E h) (unhide hxy).1.1 (unhide hxy).1.2 (unhide hxy).2.1 (unhide hxy).2.2 (unhide HP).1.1 (unhide HP).1.2 (unhide HP).2.1 (unhide HP).2.2
        have cq : Hid (∀ wq, Calls Tryz.prog 218 #[.complex .f64 r1 r2] wq fun x w' => x = .returned (.tuple #[.int .i64 (E h 3 - e 3), .int .i64 (E h 4 - e 4)]) ∧ w' = wq) := fun wq => by
          have h1 := unhide hxy
          have h2 := unhide HP
          exact mParts_any r1 r2 _ _ wq R1 R2 (by omega) (by omega) (by omega) (by omega)
        have cd : Hid (∀ wq, Calls Tryz.prog 217 #[.int .i64 (E h 3 - e 3), .int .i64 (E h 4 - e 4)] wq fun x w' => ∃ r, x = .returned (.int .i64 r) ∧ Fx.isRoot (((E h 3 - e 3) * (E h 3 - e 3) + (E h 4 - e 4) * (E h 4 - e 4)) * 65536) r ∧ w' = wq) := fun wq => by
          have h1 := unhide hxy
          have h2 := unhide HP
          exact dist_any _ _ wq (by omega) (by omega) (by omega) (by omega)
        have cp := hide mPlace_at
        have hdr := hide (grown_drew1 (World.grownBy.refl w5 none))
        have hkeep : Hid (∀ z, w5.grownBy z none → (z.cell? ⟨B, 5, none⟩ = some (.slice (some ⟨gE, 0, none⟩) 32 cE) ∧ z.cell? ⟨gE, h * 11, none⟩ = some (.int .i64 (E h 0)) ∧ z.cell? ⟨gE, h * 11 + 1, none⟩ = some (.int .i64 (E h 1)) ∧ z.cell? ⟨gE, h * 11 + 2, none⟩ = some (.int .i64 (E h 2)) ∧ z.cell? ⟨gE, h * 11 + 3, none⟩ = some (.int .i64 (E h 3)) ∧ z.cell? ⟨gE, h * 11 + 4, none⟩ = some (.int .i64 (E h 4)) ∧ z.cell? ⟨gE, h * 11 + 5, none⟩ = some (.int .i64 (E h 5)) ∧ z.cell? ⟨gE, h * 11 + 6, none⟩ = some (.int .i64 (E h 6)) ∧ z.cell? ⟨gE, h * 11 + 7, none⟩ = some (.int .i64 (E h 7)) ∧ z.cell? ⟨gE, h * 11 + 8, none⟩ = some (.int .i64 (E h 8)) ∧ z.cell? ⟨gE, h * 11 + 9, none⟩ = some (.int .i64 (E h 9)) ∧ z.cell? ⟨gE, h * 11 + 10, none⟩ = some (.int .i64 (E h 10)) ∧ z.cell? ⟨Q, 0, none⟩ = some (.int .i64 (e 0)) ∧ z.cell? ⟨Q, 1, none⟩ = some (.int .i64 (e 1)) ∧ z.cell? ⟨Q, 2, none⟩ = some (.int .i64 (e 2)) ∧ z.cell? ⟨Q, 3, none⟩ = some (.int .i64 (e 3)) ∧ z.cell? ⟨Q, 4, none⟩ = some (.int .i64 (e 4)) ∧ z.cell? ⟨Q, 5, none⟩ = some (.int .i64 (e 5)) ∧ z.cell? ⟨Q, 6, none⟩ = some (.int .i64 (e 6)) ∧ z.cell? ⟨Q, 7, none⟩ = some (.int .i64 (e 7)) ∧ z.cell? ⟨Q, 8, none⟩ = some (.int .i64 (e 8)) ∧ z.cell? ⟨Q, 9, none⟩ = some (.int .i64 (e 9)) ∧ z.cell? ⟨Q, 10, none⟩ = some (.int .i64 (e 10)))) := fun z hz => by
          have hO6 := (unhide hO5).on hz
          have hQ6 := ((unhide hQ5).on hz).elevenInts
          have hr := hO6.lists.own.ents.row (unhide HH).1
          obtain ⟨u0, u1, u2, u3, u4, u5, u6, u7, u8, u9, u10⟩ := hr
          exact ⟨hO6.box.eleven.2.2.2.2.2.1, u0, u1, u2, u3, u4, u5, u6, u7, u8, u9, u10, hQ6⟩
        have hS0 := unhide hkeep w5 (World.grownBy.refl _ none)
        clear R1 R2
        go_upto_region 7 with fail
        go_region_held3 (fun z => z.cell? ⟨B, 5, none⟩ = some (.slice (some ⟨gE, 0, none⟩) 32 cE) ∧ z.cell? ⟨gE, h * 11, none⟩ = some (.int .i64 (E h 0)) ∧ z.cell? ⟨gE, h * 11 + 1, none⟩ = some (.int .i64 (E h 1)) ∧ z.cell? ⟨gE, h * 11 + 2, none⟩ = some (.int .i64 (E h 2)) ∧ z.cell? ⟨gE, h * 11 + 3, none⟩ = some (.int .i64 (E h 3)) ∧ z.cell? ⟨gE, h * 11 + 4, none⟩ = some (.int .i64 (E h 4)) ∧ z.cell? ⟨gE, h * 11 + 5, none⟩ = some (.int .i64 (E h 5)) ∧ z.cell? ⟨gE, h * 11 + 6, none⟩ = some (.int .i64 (E h 6)) ∧ z.cell? ⟨gE, h * 11 + 7, none⟩ = some (.int .i64 (E h 7)) ∧ z.cell? ⟨gE, h * 11 + 8, none⟩ = some (.int .i64 (E h 8)) ∧ z.cell? ⟨gE, h * 11 + 9, none⟩ = some (.int .i64 (E h 9)) ∧ z.cell? ⟨gE, h * 11 + 10, none⟩ = some (.int .i64 (E h 10)) ∧ z.cell? ⟨Q, 0, none⟩ = some (.int .i64 (e 0)) ∧ z.cell? ⟨Q, 1, none⟩ = some (.int .i64 (e 1)) ∧ z.cell? ⟨Q, 2, none⟩ = some (.int .i64 (e 2)) ∧ z.cell? ⟨Q, 3, none⟩ = some (.int .i64 (e 3)) ∧ z.cell? ⟨Q, 4, none⟩ = some (.int .i64 (e 4)) ∧ z.cell? ⟨Q, 5, none⟩ = some (.int .i64 (e 5)) ∧ z.cell? ⟨Q, 6, none⟩ = some (.int .i64 (e 6)) ∧ z.cell? ⟨Q, 7, none⟩ = some (.int .i64 (e 7)) ∧ z.cell? ⟨Q, 8, none⟩ = some (.int .i64 (e 8)) ∧ z.cell? ⟨Q, 9, none⟩ = some (.int .i64 (e 9)) ∧ z.cell? ⟨Q, 10, none⟩ = some (.int .i64 (e 10))) (go_keep) (first
          | (go_at_call 219; refine (unhide cp _ _ _ _ _ _ _ _ _ _ _ _).mono ?_; rintro x w7 ⟨rfl, hg⟩; have hg7 := hide (grown_trans (unhide hdr) hg); have hS7 := unhide hkeep _ (unhide hg7); clear hg)
          | (go_at_call 219; refine (unhide cp _ _ _ _ _ _ _ _ _ _ _ _).mono ?_; rintro x w8 ⟨rfl, hg⟩; have hg8 := hide (grown_trans (unhide hg7) hg); have hS8 := unhide hkeep _ (unhide hg8); clear hg)
          | (go_at_call 218; refine (unhide cq _).mono ?_; rintro x wy ⟨rfl, hw⟩; subst wy)
          | (go_at_call 217; refine (unhide cd _).mono ?_; rintro x wy ⟨r, rfl, hr, hw⟩; subst wy; have hr' := hide hr; clear hr))
        have hO6 := hide ((unhide hO5).on (unhide hg8))
        have hQ6 := hide ((unhide hQ5).on (unhide hg8))
        clear hS0 hS7 hS8 hkeep hdr cq cd cp hsub hO5 hQ5 hg7 hg8
        by_cases hrl : r < L
        · have hs2 : Hid (Md.Seen c E (e 3) (e 4) (t + 1) r (h : Int)) := ⟨b, a, unhide hSeen, .inr ⟨h, r, unhide hh', unhide hr', .inl ⟨⟨by have h1 : (a = -1 ∧ L = 1537) ∨ (0 ≤ a ∧ L = b ∧ b ≤ 1536) := unhide hLst; omega, (by first | exact (unhide hsb').1 rfl | exact (unhide hsb').1 trivial | exact unhide hsb'), by have h1 : (a = -1 ∧ L = 1537) ∨ (0 ≤ a ∧ L = b ∧ b ≤ 1536) := unhide hLst; omega⟩, rfl, rfl⟩⟩⟩
          have hL2 : Hid (Md.Least (h : Int) r r) := .inr ⟨by omega, rfl, by have h1 : (a = -1 ∧ L = 1537) ∨ (0 ≤ a ∧ L = b ∧ b ≤ 1536) := unhide hLst; omega⟩
          have hA2 : Hid ((h : Int) = -1 ∨ ∃ h' : Nat, h' < 32 ∧ (h : Int) = (h' : Int) ∧ E h' 0 = 1) := .inr ⟨h, (unhide HH).1, rfl, (unhide HH).2⟩
          clear hh' hsb' hr'
          go_wp2
          go_roundw
          case rel => exact ⟨t + 1, r, (h : Int), r, by have := unhide HT; omega, rfl, rfl, by go_num, hs2, hL2, hA2, hO6, hQ6⟩
          case measure => simp [intOf]; have := unhide HT; omega
        · have hs2 : Hid (Md.Seen c E (e 3) (e 4) (t + 1) b a) := ⟨b, a, unhide hSeen, .inr ⟨h, r, unhide hh', unhide hr', .inr ⟨fun hT => by
            have h1 : (a = -1 ∧ L = 1537) ∨ (0 ≤ a ∧ L = b ∧ b ≤ 1536) := unhide hLst
            have h2 := hT.1
            have h3 := hT.2.2
            omega, rfl, rfl⟩⟩⟩
          clear hh' hsb' hr'
          go_wp2
          go_roundw
          case rel => exact ⟨t + 1, b, a, L, by have := unhide HT; omega, rfl, rfl, by go_num, hs2, hLst, hAt, hO6, hQ6⟩
          case measure => simp [intOf]; have := unhide HT; omega
    · obtain rfl : t = 4 := by omega
      have hge : ¬ ((4 : Nat) : Int) < 4 := by omega
      have hfin : Hid (Md.NearSays w c E (e 3) (e 4) (.returned (.int .i64 a)) wr) := ⟨b, a, unhide hSeen, unhide hAt, rfl, (unhide hO).grown⟩
      clear hlt ht
      go_wp2
      go_ret
      exact unhide hfin

end Go.Proofs.YtbanjoflgoiegaaGreat

namespace Go.Proofs.YtbanjoflgoiegaaGreat
open Go.RowKit

def Md.BagIs (I : Nat → Nat → Int) (seat : Int) (n : Nat) (f : Nat → Int) : Prop := ∀ b : Nat, b < 4 → (∃ i, i < n ∧ I i 1 = 2 ∧ I i 2 = seat ∧ I i 3 = (b : Int) ∧ f b = I i 0) ∨ ((∀ i, i < n → ¬ (I i 1 = 2 ∧ I i 2 = seat ∧ I i 3 = (b : Int))) ∧ f b = 0)

theorem Md.BagIs.skip {I : Nat → Nat → Int} {seat : Int} {n : Nat} {f : Nat → Int} (h : Md.BagIs I seat n f) (hno : ∀ b : Nat, b < 4 → ¬ (I n 1 = 2 ∧ I n 2 = seat ∧ I n 3 = (b : Int))) : Md.BagIs I seat (n + 1) f := fun b hb => by
  rcases h b hb with ⟨i, hi, r⟩ | ⟨h1, h2⟩
  · exact .inl ⟨i, by omega, r⟩
  · refine .inr ⟨fun i hi => ?_, h2⟩
    by_cases e : i = n
    · rw [e]; exact hno b hb
    · exact h1 i (by omega)

theorem Md.BagIs.take {I : Nat → Nat → Int} {seat : Int} {n b : Nat} {f : Nat → Int} (h : Md.BagIs I seat n f) (h1 : I n 1 = 2) (h2 : I n 2 = seat) (h3 : I n 3 = (b : Int)) : Md.BagIs I seat (n + 1) (Gr.upd f b (I n 0)) := fun b' hb => by
  by_cases e : b' = b
  · subst e
    refine .inl ⟨n, by omega, h1, h2, h3, ?_⟩
    simp [Gr.upd]
  · have hu : Gr.upd f b (I n 0) b' = f b' := by simp [Gr.upd, e]
    rw [hu]
    rcases h b' hb with ⟨i, hi, r⟩ | ⟨g1, g2⟩
    · exact .inl ⟨i, by omega, r⟩
    · refine .inr ⟨fun i hi => ?_, g2⟩
      by_cases e2 : i = n
      · rw [e2]; rintro ⟨_, _, h⟩; omega
      · exact g1 i (by omega)

theorem Gd.Ok.same {c : Nat → Int} {I : Nat → Nat → Int} (h : Gd.Ok c 40 I) {i k : Nat} (hi : i < 40) (hk : k < 40) (h0 : I i 1 ≠ 0) (h1 : I k 1 = I i 1) (h2 : I k 2 = I i 2) (h3 : I k 3 = I i 3) : i = k := by
  by_cases e : i = k
  · exact e
  · exact absurd ⟨h1, h2, h3⟩ (h.one i k hi hk e h0)

def Md.among (f : Nat → Int) (v : Int) : Bool := decide (0 ≤ En.first (fun b => decide (v = f b)) 4)

theorem Md.among_iff (f : Nat → Int) (v : Int) : Md.among f v = true ↔ ∃ b, b < 4 ∧ f b = v := by
  unfold Md.among
  rcases En.first_cases (fun b => decide (v = f b)) 4 with ⟨he, hno⟩ | ⟨k, hk, he, hq, _⟩
  · rw [he]
    refine ⟨fun h => by simp at h, fun ⟨b, hb, e⟩ => ?_⟩
    have := hno b hb
    simp [e] at this
  · rw [he]
    refine ⟨fun _ => ⟨k, hk, ?_⟩, fun _ => by simp⟩
    have := of_decide_eq_true hq
    exact this.symm

theorem Md.has_iff {c : Nat → Int} {I : Nat → Nat → Int} {seat : Int} {f : Nat → Int} (hok : Gd.Ok c 40 I) (h : Md.BagIs I seat 40 f) : Md.among f 1 = decide (0 ≤ Gd.has I 40 seat 1 1) := by
  rw [Bool.eq_iff_iff, Md.among_iff, decide_eq_true_iff]
  constructor
  · rintro ⟨b, hb, e⟩
    rcases h b hb with ⟨i, hi, i1, i2, i3, hf⟩ | ⟨_, h0⟩
    · have hfi : ∃ k : Nat, k < 40 ∧ Gd.find I 40 2 seat (b : Int) = (k : Int) ∧ I k 1 = 2 ∧ I k 2 = seat ∧ I k 3 = (b : Int) := by
        rcases Gd.find_cases I 40 2 seat (b : Int) with ⟨_, hno⟩ | ⟨k, hk, he, k1, k2, k3, _⟩
        · exact absurd ⟨i1, i2, i3⟩ (hno i hi)
        · exact ⟨k, hk, he, k1, k2, k3⟩
      obtain ⟨k, hk, he, k1, k2, k3⟩ := hfi
      obtain rfl : i = k := hok.same hi hk (by omega) (by omega) (by omega) (by omega)
      have hQ : Gd.hasQ I 40 seat 1 1 b = true := by
        simp only [Gd.hasQ, Bool.and_eq_true, decide_eq_true_eq]
        rw [he, Int.toNat_natCast]
        omega
      unfold Gd.has
      rcases En.first_cases (Gd.hasQ I 40 seat 1 1) 4 with ⟨hf1, hno⟩ | ⟨m, hm, hf1, hq, _⟩
      · rw [hno b hb] at hQ; cases hQ
      · rw [if_pos (by omega), hf1]
        simp only [Gd.hasQ, Bool.and_eq_true, decide_eq_true_eq] at hq
        exact hq.1
    · omega
  · intro hh
    obtain ⟨k, hk, _, k1, k2, k3, k4, k5, k6⟩ := Gd.has_pos hh
    refine ⟨(I k 3).toNat, by omega, ?_⟩
    rcases h (I k 3).toNat (by omega) with ⟨i, hi, i1, i2, i3, hf⟩ | ⟨hno, _⟩
    · obtain rfl : i = k := hok.same hi hk (by omega) (by omega) (by omega) (by omega)
      omega
    · exact absurd ⟨k1, k2, by omega⟩ (hno k hk)

theorem Md.slot_iff {c : Nat → Int} {I : Nat → Nat → Int} {seat : Int} {f : Nat → Int} (hok : Gd.Ok c 40 I) (h : Md.BagIs I seat 40 f) : Md.among f 0 = decide (0 ≤ Gd.slot I 40 seat) := by
  rw [Bool.eq_iff_iff, Md.among_iff, decide_eq_true_iff]
  constructor
  · rintro ⟨b, hb, e⟩
    rcases h b hb with ⟨i, hi, i1, i2, i3, hf⟩ | ⟨hno, _⟩
    · rcases hok.each i hi with hz | hp
      · have := hz.2.1; omega
      · have := hp.1; omega
    · unfold Gd.slot
      rcases En.first_cases (fun b => decide (Gd.find I 40 2 seat (b : Int) < 0)) 4 with ⟨_, hn⟩ | ⟨m, hm, hf1, _⟩
      · have := hn b hb
        simp only [decide_eq_false_iff_not] at this
        obtain ⟨k, hk, _, k1, k2, k3⟩ := Gd.find_pos (I := I) (n := 40) (w := 2) (a := seat) (b := (b : Int)) (by omega)
        exact absurd ⟨k1, k2, k3⟩ (hno k hk)
      · omega
  · intro hs
    obtain ⟨h4, hno⟩ := Gd.slot_pos hs
    refine ⟨(Gd.slot I 40 seat).toNat, by omega, ?_⟩
    rcases h (Gd.slot I 40 seat).toNat (by omega) with ⟨i, hi, i1, i2, i3, _⟩ | ⟨_, h0⟩
    · exact absurd ⟨i1, i2, by omega⟩ (hno i hi)
    · exact h0

def Md.liesQ (I : Nat → Nat → Int) (x y : Int) (room : Bool) : Nat → Bool := fun i => (decide (I i 1 = 1) && (decide (I i 2 = x) && decide (I i 3 = y))) && (room || decide (I i 0 = 4))

def Md.lies (I : Nat → Nat → Int) (x y : Int) (room : Bool) : Bool := decide (0 ≤ En.first (Md.liesQ I x y room) 40)

theorem Md.lies_iff {c : Nat → Int} {I : Nat → Nat → Int} {x y S : Int} (hok : Gd.Ok c 40 I) : Md.lies I x y (decide (0 ≤ S)) = decide (0 ≤ Gd.find I 40 1 x y ∧ (I (Gd.find I 40 1 x y).toNat 0 = 4 ∨ 0 ≤ S)) := by
  unfold Md.lies
  rw [Bool.eq_iff_iff, decide_eq_true_iff, decide_eq_true_iff]
  constructor
  · intro h
    rcases En.first_cases (Md.liesQ I x y (decide (0 ≤ S))) 40 with ⟨he, _⟩ | ⟨k, hk, he, hq, _⟩
    · omega
    · simp only [Md.liesQ, Bool.and_eq_true, Bool.or_eq_true, decide_eq_true_eq] at hq
      obtain ⟨⟨k1, k2, k3⟩, k4⟩ := hq
      rcases Gd.find_cases I 40 1 x y with ⟨_, hno⟩ | ⟨j, hj, hf, j1, j2, j3, _⟩
      · exact absurd ⟨k1, k2, k3⟩ (hno k hk)
      · obtain rfl : k = j := hok.same hk hj (by omega) (by omega) (by omega) (by omega)
        rw [hf, Int.toNat_natCast]
        exact ⟨by omega, by rcases k4 with h | h <;> omega⟩
  · rintro ⟨h1, h2⟩
    obtain ⟨k, hk, he, k1, k2, k3⟩ := Gd.find_pos h1
    rw [he, Int.toNat_natCast] at h2
    rcases En.first_cases (Md.liesQ I x y (decide (0 ≤ S))) 40 with ⟨_, hno⟩ | ⟨m, hm, hf, _⟩
    · have := hno k hk
      have hq : Md.liesQ I x y (decide (0 ≤ S)) k = true := by
        simp only [Md.liesQ, Bool.and_eq_true, Bool.or_eq_true, decide_eq_true_eq]
        exact ⟨⟨k1, k2, k3⟩, by rcases h2 with h | h <;> omega⟩
      rw [hq] at this; cases this
    · omega

def Md.BagSays (w : World) (I : Nat → Nat → Int) (seat : Int) (e : Ending) (w' : World) : Prop := ∃ G f, e = .returned (.slice (some ⟨G, 0, none⟩) 4 4) ∧ Arr w' G 3 4 (Ints f) ∧ Md.BagIs I seat 40 f ∧ w.grownBy w' none

set_option maxRecDepth 8000 in
set_option maxHeartbeats 3200000 in
theorem mBag_any (I : Nat → Nat → Int) (gI cI : Nat) (seat : Int) (w : World) (hI : Its w gI 0 40 I) :
    Calls Tryz.prog 227 #[.slice (some ⟨gI, 0, none⟩) 40 cI, .int .i64 seat] w (Md.BagSays w I seat) := by
  have hI' := hide hI
  obtain ⟨i0, hi, hz0, hz1, hz2⟩ := info_parts info_int
  clear hI
  go_enter Tryz.func227, Tryz.ntmps227
  obtain ⟨G, hG⟩ : ∃ G, G = w.heap.size := ⟨_, rfl⟩
  have hG' := hide hG
  clear hG
  go_wp2_with (at_make; refine wpList_make_full _ rfl _ _ 38 rfl G 3 i0 (.int .i64 0) 1 Tryz.underlying38 hi hz0 hz1 .i64 .i64 _ _ 4 rfl rfl rfl rfl ?q3 ?q4 (Nat.le_of_eq (unhide hG')) ?_)
  case q3 => rw [hz2]; omega
  case q4 => unfold maxLen; omega
  intro w2 hown hgrow
  rw [← unhide hG'] at hown ⊢
  have hA := hide (Arr.zero hown)
  have hB0 : Hid (w.grownBy w2 none) := below_grown (by rw [← unhide hG']; exact (Below.refl _ _).grown hgrow (Nat.le_of_eq (unhide hG')) (by intro k hk; cases hk))
  clear hown hgrow hi hz0 hz1 hz2
  go_wp2_with fail
  go_loopw [7, 11] (fun _ i wr => ∃ (k : Nat) (f : Nat → Int), k ≤ 40 ∧ i = .int .i64 (k : Int) ∧ Hid (Arr wr G 3 4 (Ints f)) ∧ Hid (Md.BagIs I seat k f) ∧ Hid (w.grownBy wr none)) (fun _ i _ => 50 - (intOf i).toNat)
  case atStart => exact ⟨0, fun _ => 0, Nat.zero_le _, rfl, (unhide hA).congr fun _ _ => rfl, fun b _ => .inr ⟨fun i hi => by omega, rfl⟩, hB0⟩
  case round =>
    obtain ⟨k, f, hk, rfl, hA1, hB1, hg1⟩ := hrel
    clear hA hB0
    by_cases hlt : k < 40
    · have hlt' : (k : Int) < 40 := by omega
      have HL := hide hlt
      obtain ⟨u0, u1, u2, u3⟩ := ((unhide hI').on (unhide hg1)).row hlt
      obtain ⟨p0, h0⟩ : ∃ p, I k 0 = p := ⟨_, rfl⟩
      obtain ⟨p1, h1⟩ : ∃ p, I k 1 = p := ⟨_, rfl⟩
      obtain ⟨p2, h2⟩ : ∃ p, I k 2 = p := ⟨_, rfl⟩
      obtain ⟨p3, h3⟩ : ∃ p, I k 3 = p := ⟨_, rfl⟩
      rw [h0] at u0
      rw [h1] at u1
      rw [h2] at u2
      rw [h3] at u3
      have hP := hide (show I k 0 = p0 ∧ I k 1 = p1 ∧ I k 2 = p2 ∧ I k 3 = p3 from ⟨h0, h1, h2, h3⟩)
      clear h0 h1 h2 h3 hlt hk
      have hga := hide (World.grownBy_alloc wr (.cells #[.int .i64 p0, .int .i64 p1, .int .i64 p2, .int .i64 p3] 62) none)
      by_cases m : p1 = 2 ∧ p2 = seat ∧ 0 ≤ p3 ∧ p3 < 4
      · obtain ⟨rfl, rfl, m3, m4⟩ := m
        obtain ⟨b, rfl⟩ : ∃ b : Nat, p3 = (b : Int) := ⟨p3.toNat, by omega⟩
        have HB := hide (show b < 4 by omega)
        have hA2 := hide ((unhide hA1).grown (unhide hga) (by simp))
        have hcc := (unhide hA2).cell (unhide HB)
        have hff := (unhide hA2).free b
        have hB2 : Hid (Md.BagIs I p2 (k + 1) (Gr.upd f b p0)) := by
          have hP' := unhide hP
          have := (unhide hB1).take hP'.2.1 hP'.2.2.1 hP'.2.2.2
          rw [hP'.1] at this
          exact this
        have hfin : Hid (∀ v : Int, w.grownBy ((wr.alloc (.cells #[.int .i64 p0, .int .i64 2, .int .i64 p2, .int .i64 (b : Int)] 62)).setCell ⟨G, b, none⟩ (.int .i64 v)) none) := fun v => grown_store (grown_trans (unhide hg1) (unhide hga)) ⟨G, b, none⟩ (Nat.le_of_eq (unhide hG').symm) _
        clear hP hga hA1 hB1 hg1
        go_wp2
        go_roundw
        case rel => exact ⟨k + 1, Gr.upd f b p0, by have := unhide HL; omega, by go_num, (unhide hA2).upd p0, hB2, unhide hfin p0⟩
        case measure => have := unhide HL; simp [intOf]; omega
      · have hB2 : Hid (Md.BagIs I seat (k + 1) f) := (unhide hB1).skip fun b hb ⟨j1, j2, j3⟩ => m (by have := unhide hP; omega)
        have hA2 := hide ((unhide hA1).grown (unhide hga) (by simp))
        have hg2 := hide (grown_trans (unhide hg1) (unhide hga))
        clear hP hga hA1 hB1 hg1
        by_cases m1 : p1 = 2
        · subst m1
          by_cases m2 : p2 = seat
          · subst m2
            by_cases m3 : p3 < 0
            · have m3' : ¬ p3 ≥ 0 := by omega
              clear m
              go_wp2
              go_roundw
              case rel => exact ⟨k + 1, f, by have := unhide HL; omega, by go_num, hA2, hB2, hg2⟩
              case measure => have := unhide HL; simp [intOf]; omega
            · have m3' : p3 ≥ 0 := by omega
              have m4' : ¬ p3 < 4 := by omega
              clear m
              go_wp2
              go_roundw
              case rel => exact ⟨k + 1, f, by have := unhide HL; omega, by go_num, hA2, hB2, hg2⟩
              case measure => have := unhide HL; simp [intOf]; omega
          · have m2' : (p2 == seat) = false := by simpa using m2
            clear m m2
            go_wp2
            go_roundw
            case rel => exact ⟨k + 1, f, by have := unhide HL; omega, by go_num, hA2, hB2, hg2⟩
            case measure => have := unhide HL; simp [intOf]; omega
        · have m1' : (p1 == 2) = false := by simpa using m1
          clear m m1
          go_wp2
          go_roundw
          case rel => exact ⟨k + 1, f, by have := unhide HL; omega, by go_num, hA2, hB2, hg2⟩
          case measure => have := unhide HL; simp [intOf]; omega
    · obtain rfl : k = 40 := by omega
      have hge : ¬ ((40 : Nat) : Int) < 40 := by omega
      have hfin : Hid (Md.BagSays w I seat (.returned (.slice (some ⟨G, 0, none⟩) 4 4)) wr) := ⟨G, f, rfl, unhide hA1, unhide hB1, unhide hg1⟩
      clear hlt hk
      go_wp2
      go_ret
      exact unhide hfin

set_option maxHeartbeats 800000 in
theorem mIndex_any (G : Nat) (f : Nat → Int) (v : Int) (w : World) (hA : Arr w G 3 4 (Ints f)) :
    Calls Tryz.prog 133 #[.slice (some ⟨G, 0, none⟩) 4 4, .int .i64 v] w fun e w' => e = .returned (.int .i64 (En.first (fun b => decide (v = f b)) 4)) ∧ w' = w := by
  have hA' := hide hA
  have hhit : Hid (∀ k : Nat, k < 4 → (∀ j, j < k → v ≠ f j) → v = f k → En.first (fun b => decide (v = f b)) 4 = (k : Int)) := fun k hk hno e => En.first_hit (fun j hj => decide_eq_false (hno j hj)) (decide_eq_true e) hk
  have hnone : Hid ((∀ j, j < 4 → v ≠ f j) → En.first (fun b => decide (v = f b)) 4 = -1) := fun hno => En.first_none (fun j hj => decide_eq_false (hno j hj))
  generalize En.first (fun b => decide (v = f b)) 4 = r at hhit hnone ⊢
  clear hA
  go_enter Tryz.func133, Tryz.ntmps133
  go_wp2_with fail
  go_loop [5, 8] (fun _ i => ∃ k : Nat, k ≤ 4 ∧ i = .int .i64 (k : Int) ∧ Hid (∀ j, j < k → v ≠ f j)) (fun _ i => 10 - (intOf i).toNat)
  case atStart => exact ⟨0, by omega, rfl, fun j hj => by omega⟩
  case round =>
    obtain ⟨k, hk, rfl, hno⟩ := hrel
    by_cases hlt : k < 4
    · have q : w.cell? ⟨G, k, none⟩ = some (.int .i64 (f k)) := (unhide hA').cell hlt
      have hlt' : (k : Int) < 4 := by omega
      have HL := hide hlt
      obtain ⟨u, hu⟩ : ∃ u, f k = u := ⟨_, rfl⟩
      rw [hu] at q
      have hu' := hide hu
      clear hu hlt hk
      by_cases e : v = u
      · have he : Hid (r = (k : Int)) := unhide hhit k (unhide HL) (unhide hno) (by rw [unhide hu']; exact e)
        subst e
        go_wp2
        go_ret
        exact ⟨ret_int (unhide he).symm, rfl⟩
      · have e' : (v == u) = false := by simpa using e
        have hno2 : Hid (∀ j, j < k + 1 → v ≠ f j) := fun j hj => by
          by_cases ej : j = k
          · rw [ej, unhide hu']; exact e
          · exact unhide hno j (by omega)
        clear e
        go_wp2
        go_round
        case rel => exact ⟨k + 1, by have := unhide HL; omega, by go_num, hno2⟩
        case measure => have := unhide HL; simp [intOf]; omega
    · obtain rfl : k = 4 := by omega
      have hge : ¬ ((4 : Nat) : Int) < 4 := by omega
      have he : Hid (r = -1) := unhide hnone (unhide hno)
      clear hlt hk
      go_wp2
      go_ret
      exact ⟨ret_int (unhide he).symm, rfl⟩

theorem mContains_any (G : Nat) (f : Nat → Int) (v : Int) (w : World) (hA : Arr w G 3 4 (Ints f)) :
    Calls Tryz.prog 229 #[.slice (some ⟨G, 0, none⟩) 4 4, .int .i64 v] w fun e w' => e = .returned (.bool (Md.among f v)) ∧ w' = w := by
  have ci := hide (mIndex_any G f v w hA)
  have hd : Hid (Md.among f v = decide (0 ≤ En.first (fun b => decide (v = f b)) 4)) := rfl
  rw [unhide hd]
  generalize En.first (fun b => decide (v = f b)) 4 = r at ci ⊢
  clear hA hd
  go_enter Tryz.func229, Tryz.ntmps229
  go_wp2_with fail
  refine (unhide ci).mono ?_
  rintro e wy ⟨rfl, hw⟩
  subst wy
  go_wp2
  go_ret
  exact ⟨by simp, rfl⟩

end Go.Proofs.YtbanjoflgoiegaaGreat

namespace Go.Proofs.YtbanjoflgoiegaaGreat
open Go.RowKit

theorem slice_items (a : Option Addr) (len cap k : Nat) (w : World) (hk : k ≤ cap) :
    (Instr.slice 27 (.slice a len cap) none (some (.int .i64 (k : Int))) none).run Tryz.prog w = .ok (.slice a k cap) w := by
  have hs : (sizeOf (Tryz.prog.elem 27)).run Tryz.prog w = .ok 4 w := by kernel_rfl
  rw [run_slice_h w 27 a len cap (by kernel_rfl) .i64 (k : Int) (by omega) (by omega), hs]
  have e : a.map (fun x => x.add (0 * 4)) = a := by
    cases a with
    | none => rfl
    | some x => simp [Addr.add]
  simp only [Result.andThen, sliced, e, Int.toNat_natCast, Nat.sub_zero, ite_self]

set_option maxHeartbeats 6400000 in
theorem lay_any (b cp n cm : Nat) (a : Option Addr) (I M : Nat → Nat → Int) (w : World) (hL : Lie w b 62 160 (Gd.flat I)) (hM : Gd.Some w a n M) :
    Calls Tryz.prog 57 #[.slice (some ⟨b, 0, none⟩) 40 cp, .slice a n cm] w (Gd.Gives40 w (Gd.lay I M n)) := by
  have hn := hM.1
  have hM' := hide hM
  have ct := hide (twinItems_any b 40 160 cp (Gd.flat I) w (by omega) (by omega) (fun _ => rfl) (fun q hq => hL.cell hq) hL.lt)
  clear hL hM
  go_enter Tryz.func57, Tryz.ntmps57
  go_wp2_with fail
  refine (unhide ct).mono ?_
  rintro e w1 ⟨g, rfl, hlo, hA, hg⟩
  have hl1 := hide hA.lie
  have hg1 := hide hg
  have hlo' := hide hlo
  have hs := fun wx => slice_items (some ⟨g, 0, none⟩) 40 40 40 wx (by omega)
  clear ct hlo hA hg
  go_wp2_with fail
  clear hs
  go_loopw [7, 19] (fun q i wr => ∃ r m : Nat, m ≤ n ∧ r ≤ 40 ∧ q = .int .i64 (r : Int) ∧ i = .int .i64 (m : Int) ∧ (∀ j, j < r → Gd.goneQ (Gd.lay I M m) j = false) ∧ Lie wr g 62 160 (Gd.flat (Gd.lay I M m)) ∧ w.grownBy wr none) (fun _ i _ => 200 - (intOf i).toNat)
  case atStart => exact ⟨0, 0, by omega, by omega, rfl, rfl, fun j hj => by omega, unhide hl1, unhide hg1⟩
  case round =>
    obtain ⟨r0, m, hm, hr0, rfl, rfl, hno0, hJ, hgr⟩ := hrel
    have hno0' := hide hno0
    have hJ' := hide hJ
    have hgr' := hide hgr
    clear hno0 hJ hgr
    by_cases hlt : m < n
    · have hlt' : (m : Int) < (n : Int) := by omega
      have HL := hide hlt
      obtain ⟨bm, om, rfl, lbm, v0, v1, v2, v3⟩ := ((unhide hM').on (unhide hgr')).row hlt
      clear hlt
      have hnew0 := (Arr.lit (heap_alloc_new wr (.cells #[.int .i64 (M m 0), .int .i64 (M m 1), .int .i64 (M m 2), .int .i64 (M m 3)] 62))).lie
      have hga := hide (World.grownBy_alloc wr (.cells #[.int .i64 (M m 0), .int .i64 (M m 1), .int .i64 (M m 2), .int .i64 (M m 3)] 62) none)
      go_wp2_with fail
      obtain ⟨wb, hwb⟩ : ∃ wb, wr.alloc (.cells #[.int .i64 (M m 0), .int .i64 (M m 1), .int .i64 (M m 2), .int .i64 (M m 3)] 62) = wb := ⟨_, rfl⟩
      obtain ⟨P, hP⟩ : ∃ P, wr.heap.size = P := ⟨_, rfl⟩
      have hPg : g < P := by rw [← hP]; exact (unhide hJ').lt
      rw [hwb] at hnew0 hga ⊢
      rw [hP] at hnew0 ⊢
      have hnew := hide hnew0
      have hJb := hide ((unhide hJ').on (unhide hga))
      have hgb := hide (grown_trans (unhide hgr') (unhide hga))
      clear hwb hP hnew0 hga v0 v1 v2 v3 lbm hJ' hgr'
      go_loopw [7] (fun q wz => ∃ r : Nat, r ≤ 40 ∧ q = .int .i64 (r : Int) ∧ (∀ j, j < r → Gd.goneQ (Gd.lay I M m) j = false) ∧ wb.grownBy wz none) (fun q _ => 200 - (intOf q).toNat)
      case atStart => exact ⟨r0, hr0, rfl, unhide hno0', World.grownBy.refl _ _⟩
      case round =>
        obtain ⟨r, hr, rfl, hno, hgz⟩ := hrel
        have hno' := hide hno
        have hgz' := hide hgz
        clear hno hgz
        by_cases hr40 : r < 40
        · have hr' : (r : Int) < 40 := by omega
          have HR := hide hr40
          obtain ⟨u0, u1, u2, u3⟩ := (((unhide hJb).on (unhide hgz')).its (n := 40) (by omega) (by omega)).row hr40
          have hgq := hide (show Gd.goneQ (Gd.lay I M m) r = Gd.zeroB (Gd.lay I M m r 0) (Gd.lay I M m r 1) (Gd.lay I M m r 2) (Gd.lay I M m r 3) from rfl)
          have cg0 := isGone_any (Gd.lay I M m r 0) (Gd.lay I M m r 1) (Gd.lay I M m r 2) (Gd.lay I M m r 3) wr
          obtain ⟨z, hz⟩ : ∃ z, Gd.zeroB (Gd.lay I M m r 0) (Gd.lay I M m r 1) (Gd.lay I M m r 2) (Gd.lay I M m r 3) = z := ⟨_, rfl⟩
          rw [hz] at cg0 hgq
          have cg := hide cg0
          clear cg0 hz hr40
          go_wp2_with fail
          refine (unhide cg).mono ?_
          rintro e w3 ⟨rfl, hg3⟩
          have hgz3 := hide (grown_trans (unhide hgz') hg3)
          clear cg hg3 u0 u1 u2 u3
          cases z with
          | false =>
            go_wp2
            go_roundw
            case rel => exact ⟨r + 1, by have := unhide HR; omega, by go_num, fun j hj => by
              by_cases e : j = r
              · rw [e]; exact unhide hgq
              · exact unhide hno' j (by omega), unhide hgz3⟩
            case measure => simp [intOf]; omega
          | true =>
            have hs := hide (Gd.lay_some (unhide hno') (unhide hgq) (unhide HR))
            have hnw := (unhide hnew).on (unhide hgz3)
            have x0 : w3.cell? ⟨P, 0, none⟩ = some (.int .i64 (M m 0)) := hnw.cell (c := 0) (by simp)
            have x1 : w3.cell? ⟨P, 1, none⟩ = some (.int .i64 (M m 1)) := hnw.cell (c := 1) (by simp)
            have x2 : w3.cell? ⟨P, 2, none⟩ = some (.int .i64 (M m 2)) := hnw.cell (c := 2) (by simp)
            have x3 : w3.cell? ⟨P, 3, none⟩ = some (.int .i64 (M m 3)) := hnw.cell (c := 3) (by simp)
            have hJ3 := (unhide hJb).on (unhide hgz3)
            obtain ⟨u0, u1, u2, u3⟩ := (hJ3.its (n := 40) (by omega) (by omega)).row (unhide HR)
            have fI := hJ3.free
            have hJn := hide (hJ3.put r (M m 0) (M m 1) (M m 2) (M m 3))
            have hgn := hide (grown_own (grown_trans (unhide hgb) (unhide hgz3)) (grown_put4 (World.grownBy.refl _ (some g)) r (.int .i64 (M m 0)) (.int .i64 (M m 1)) (.int .i64 (M m 2)) (.int .i64 (M m 3))) (fun k e => by cases e; exact unhide hlo'))
            have hrne : ((r : Int) == 40) = false := by simp; omega
            clear hnw hJ3
            go_wp2
            go_roundw
            case rel => exact ⟨r, m + 1, by have := unhide HL; omega, by have := unhide HR; omega, rfl, by go_num, fun j hj => by
              rw [unhide hs]
              show Gd.zeroB _ _ _ _ = false
              rw [En.put_other (by omega)]
              exact unhide hno' j hj, by rw [unhide hs]; exact unhide hJn, unhide hgn⟩
            case measure => simp [intOf]; omega
        · have hge : ¬ (r : Int) < 40 := by omega
          have er : (r : Int) = 40 := by omega
          have hst := hide (Gd.lay_stuck (I := I) (M := M) (m := m) (fun j hj => unhide hno' j (by omega)) (n - m))
          have hJf := hide ((unhide hJb).on (unhide hgz'))
          have hgf := hide (grown_trans (unhide hgb) (unhide hgz'))
          rw [er]
          clear er hge hr
          go_wp2
          go_ret
          refine ⟨g, 40, rfl, unhide hlo', ?_, unhide hgf⟩
          have h := unhide hst
          rw [show m + (n - m) = n by omega] at h
          rw [h]
          exact unhide hJf
    · have hge : ¬ (m : Int) < (n : Int) := by omega
      obtain rfl : m = n := by omega
      go_wp2
      go_ret
      exact ⟨g, 40, rfl, unhide hlo', unhide hJ', unhide hgr'⟩

end Go.Proofs.YtbanjoflgoiegaaGreat
