/-
  What is put on, in goods.
  The document's small functions of items: In, Slot, has, Potion.
  What a hero does with an item, in goods: what becomes of it.
-/
import Derived.Test.YtgkomdpceilggaaPart14
import Derived.Deep.RegionHeld3
import Derived.Deep.Cut
import Derived.Deep.RegionWith
namespace Go.Proofs.Ytgkomdpceilggaa
open Go.RowKit

/-- Place and item, in a block of their own. -/
theorem place_cells {x : World} {P : Nat} {a b c : Int} (h : Arr x P 67 3 (fun j => #[Value.int .i64 a, .int .i64 b, .int .i64 c][j]?.getD undef)) : x.cell? ⟨P, 0, none⟩ = some (.int .i64 a) ∧ x.cell? ⟨P, 1, none⟩ = some (.int .i64 b) ∧ x.cell? ⟨P, 2, none⟩ = some (.int .i64 c) :=
  ⟨h.cell (i := 0) (by omega), h.cell (i := 1) (by omega), h.cell (i := 2) (by omega)⟩

theorem place_put {x : World} {Q : Nat} {T : TypeId} {F : Nat → Value} {a b c : Value} (h : Arr x Q T 3 F) : Arr (((x.setCell ⟨Q, 0, none⟩ a).setCell ⟨Q, 1, none⟩ b).setCell ⟨Q, 2, none⟩ c) Q T 3 (fun j => #[a, b, c][j]?.getD undef) := by
  refine (((h.store 0 a).store 1 b).store 2 c).congr fun j hj => ?_
  rcases (show j = 0 ∨ j = 1 ∨ j = 2 by omega) with rfl | rfl | rfl <;> rfl

theorem place_grown {x y : World} {Q : Nat} {a b c : Value} (h : x.grownBy y none) (hQ : x.heap.size ≤ Q) : x.grownBy (((y.setCell ⟨Q, 0, none⟩ a).setCell ⟨Q, 1, none⟩ b).setCell ⟨Q, 2, none⟩ c) none :=
  grown_store (grown_store (grown_store h ⟨Q, 0, none⟩ hQ a) ⟨Q, 1, none⟩ hQ b) ⟨Q, 2, none⟩ hQ c

/-- One item stored anew, cell by cell. -/
theorem Lie.put {x : World} {g m : Nat} {T : TypeId} {I : Nat → Nat → Int} (h : Lie x g T m (Gd.flat I)) (k : Nat) (a b c d : Int) : Lie ((((x.setCell ⟨g, k * 4, none⟩ (.int .i64 a)).setCell ⟨g, k * 4 + 1, none⟩ (.int .i64 b)).setCell ⟨g, k * 4 + 2, none⟩ (.int .i64 c)).setCell ⟨g, k * 4 + 3, none⟩ (.int .i64 d)) g T m (Gd.flat (En.put I k (Gd.row a b c d))) := h.item k (Gd.row a b c d)

theorem grown_put4 {x y : World} {g : Nat} (h : x.grownBy y (some g)) (k : Nat) (a b c d : Value) : x.grownBy ((((y.setCell ⟨g, k * 4, none⟩ a).setCell ⟨g, k * 4 + 1, none⟩ b).setCell ⟨g, k * 4 + 2, none⟩ c).setCell ⟨g, k * 4 + 3, none⟩ d) (some g) :=
  grown_set (grown_set (grown_set (grown_set h _ _) _ _) _ _) _ _

theorem grown_some {x y : World} {r : Option Nat} (h : x.grownBy y none) : x.grownBy y r :=
  ⟨h.os, h.tape, h.output, h.size, fun i hi _ => h.block i hi (fun e => by cases e)⟩

theorem Gd.wear_some {I : Nat → Nat → Int} {i f : Nat} (h : Gd.find I 40 3 (I i 2) (I i 0 - 2) = (f : Int)) (h2 : I i 1 = 2) : Gd.wearAt I 40 (I i 2) i = En.put (En.put I f (Gd.row (I f 0) (I i 1) (I i 2) (I i 3))) i (Gd.row (I i 0) 3 (I i 2) (I i 0 - 2)) := by
  obtain ⟨k, hk, e, _, hka, _⟩ := Gd.find_pos (I := I) (n := 40) (w := 3) (a := I i 2) (b := I i 0 - 2) (by omega)
  have hkf : k = f := by omega
  rw [hkf] at hka
  unfold Gd.wearAt
  rw [if_pos (by omega), h, Int.toNat_natCast, hka, h2]

theorem Gd.wear_none {I : Nat → Nat → Int} {i : Nat} (h : Gd.find I 40 3 (I i 2) (I i 0 - 2) < 0) : Gd.wearAt I 40 (I i 2) i = En.put I i (Gd.row (I i 0) 3 (I i 2) (I i 0 - 2)) := by
  unfold Gd.wearAt
  rw [if_neg (by omega)]

set_option maxHeartbeats 3200000 in
theorem wear_any (g c i : Nat) (I : Nat → Nat → Int) (w : World) (hL : Lie w g 38 160 (Gd.flat I)) (hi : i < 40) (k0 : 0 ≤ I i 0) (k1 : I i 0 ≤ 100) (h2 : I i 1 = 2) :
    Calls Try.prog 77 #[.slice (some ⟨g, 0, none⟩) 40 c, .int .i64 (i : Int)] w fun e w' => e = .returned (.tuple #[]) ∧ Lie w' g 38 160 (Gd.flat (Gd.wearAt I 40 (I i 2) i)) ∧ w.grownBy w' (some g) := by
  have hi' : (i : Int) < 40 := by omega
  have hL' := hide hL
  have hn := hL.its (n := 40) (by omega) (by omega)
  obtain ⟨u0, u1, u2, u3⟩ := hn.row hi
  have cp := hide (placeOf_any (I i 0) (I i 1) (I i 2) (I i 3) w)
  have h2' := hide h2
  clear hL hn h2
  go_enter Try.func77, Try.ntmps77
  go_wp2_with fail
  refine (unhide cp).mono ?_
  rintro e w1 ⟨rfl, hg1⟩
  clear cp u0 u1 u2 u3
  go_upto_region 1 with fail
  have hP2 := Arr.lit (heap_alloc_new w1 (.cells #[.int .i64 (I i 1), .int .i64 (I i 2), .int .i64 (I i 3)] 67))
  have hg2 := grown_alloc hg1 (.cells #[.int .i64 (I i 1), .int .i64 (I i 2), .int .i64 (I i 3)] 67)
  obtain ⟨w2, hw2⟩ : ∃ w2, w1.alloc (.cells #[.int .i64 (I i 1), .int .i64 (I i 2), .int .i64 (I i 3)] 67) = w2 := ⟨_, rfl⟩
  have hPw : w.heap.size ≤ w1.heap.size := hg1.size
  obtain ⟨P, hP⟩ : ∃ P, w1.heap.size = P := ⟨_, rfl⟩
  rw [hw2] at hP2 hg2 ⊢
  rw [hP] at hP2 hPw ⊢
  have hP2' := hide hP2
  have hg2' := hide hg2
  have hlP := hP2.lt
  have hlg := Nat.lt_of_lt_of_le (unhide hL').lt hg2.size
  clear hw2 hP hg1 w1
  have k0' := k0
  have keep : Hid (∀ x, Hid (w2.grownBy x none) → (x.cell? ⟨P, 1, none⟩ = some (.int .i64 (I i 2)) ∧ x.cell? ⟨g, i * 4, none⟩ = some (.int .i64 (I i 0)))) := fun x hx => ⟨(place_cells ((unhide hP2').grown (unhide hx) (by simp))).2.1, ((((unhide hL').on (unhide hg2')).on (unhide hx)).its (n := 40) (by omega) (by omega)).row hi |>.1⟩
  obtain ⟨q1, q2⟩ := unhide keep w2 (World.grownBy.refl _ _)
  have cw : Hid (∀ x, Hid (w2.grownBy x none) → Calls Try.prog 83 #[.int .i64 (I i 2), .int .i64 (I i 0)] x fun e w' => e = .returned (.agg #[.int .i64 3, .int .i64 (I i 2), .int .i64 (I i 0 - 2)]) ∧ Hid (w2.grownBy w' none)) := fun x hx => (wornBy_any (I i 2) (I i 0) k0 k1 x).mono fun e w' ⟨h1, h2⟩ => ⟨h1, grown_trans (unhide hx) h2⟩
  have hd0 : Hid (w2.grownBy w2.drew none) := grown_drew1 (World.grownBy.refl _ _)
  obtain ⟨Z, hZ⟩ : ∃ Z, Z = w2.alloc (.cells #[.int .i64 0, .int .i64 0, .int .i64 0] 67) := ⟨_, rfl⟩
  have hZg : w2.grownBy Z none := by rw [hZ]; exact World.grownBy_alloc _ _ _
  have hZa : Arr Z w2.heap.size 67 3 (fun j => #[Value.int .i64 0, .int .i64 0, .int .i64 0][j]?.getD undef) := by rw [hZ]; exact Arr.lit (heap_alloc_new w2 _)
  have cw2 : Hid (Calls Try.prog 83 #[.int .i64 (I i 2), .int .i64 (I i 0)] Z.drew fun e w' => e = .returned (.agg #[.int .i64 3, .int .i64 (I i 2), .int .i64 (I i 0 - 2)]) ∧ Hid (w2.grownBy w' none) ∧ Hid (Arr w' w2.heap.size 67 3 (fun j => #[Value.int .i64 0, .int .i64 0, .int .i64 0][j]?.getD undef))) := (wornBy_any (I i 2) (I i 0) k0 k1 Z.drew).mono fun e w' ⟨h1, h2⟩ => ⟨h1, grown_trans (grown_drew1 hZg) h2, hZa.grown (grown_trans (grown_drew1 (World.grownBy.refl _ _)) h2) (by simp)⟩
  rw [hZ] at cw2
  have fr : Hid (∀ x : World, Hid (Arr x w2.heap.size 67 3 (fun j => #[Value.int .i64 0, .int .i64 0, .int .i64 0][j]?.getD undef)) → (x.cell? ⟨w2.heap.size, 0, none⟩ = some (.int .i64 0) ∧ x.cell? ⟨w2.heap.size, 1, none⟩ = some (.int .i64 0) ∧ x.cell? ⟨w2.heap.size, 2, none⟩ = some (.int .i64 0)) ∧ x.frozen? ⟨w2.heap.size, 0, none⟩ = false ∧ x.frozen? ⟨w2.heap.size, 1, none⟩ = false ∧ x.frozen? ⟨w2.heap.size, 2, none⟩ = false) := fun x h => ⟨place_cells (unhide h), (unhide h).free 0, (unhide h).free 1, (unhide h).free 2⟩
  clear hP2 hg2 k0 k1 k0' hZ hZg hZa Z
  go_cut [5] from 12 (fun v5 wx => ∃ Q, v5 = .pointer (some ⟨Q, 0, none⟩) ∧ Hid (Arr wx Q 67 3 (fun j => #[Value.int .i64 3, .int .i64 (I i 2), .int .i64 (I i 0 - 2)][j]?.getD undef)) ∧ Hid (w2.grownBy wx none) ∧ Hid (w2.heap.size ≤ Q))
  case first =>
    go_region_with (first | (go_at_call 83; refine (unhide cw _ hd0).mono ?_; rintro e w3 ⟨rfl, hg3⟩; obtain ⟨z1, z2⟩ := unhide keep w3 hg3; have hA3 := hide hg3) | (go_at_call 83; refine (unhide cw2).mono ?_; rintro e w3 ⟨rfl, hg3, hA3⟩; obtain ⟨z1, z2⟩ := unhide keep w3 hg3; obtain ⟨⟨y0, y1, y2⟩, f0, f1, f2⟩ := unhide fr w3 hA3))
    all_goals
      go_wp2_with fail
      go_meet
      first | exact ⟨w3.heap.size, rfl, Arr.lit (heap_alloc_new w3 _), grown_alloc (unhide hg3) _, (unhide hg3).size⟩ | exact ⟨w2.heap.size, rfl, place_put (unhide hA3), place_grown (unhide hg3) (Nat.le_refl _), Nat.le_refl _⟩
  case rest =>
    obtain ⟨Q, rfl, hQ, hgc, hQw0⟩ := hcut
    have hQw : Hid (w.heap.size ≤ Q) := Nat.le_trans (unhide hg2').size (unhide hQw0)
    clear keep q1 q2 cw hd0 cw2 fr
    obtain ⟨r0, r1, r2⟩ := place_cells (unhide hQ)
    have hLc := hide (((unhide hL').on (unhide hg2')).on (unhide hgc))
    have hPc := hide ((unhide hP2').grown (unhide hgc) (by simp))
    have hgw := hide (grown_trans (unhide hg2') (unhide hgc))
    clear hP2' hg2' hgc hlP hlg hQw0
    have cat := hide (goodsAt_any g 40 c I 3 (I i 2) (I i 0 - 2) wc ((unhide hLc).its (n := 40) (by omega) (by omega)))
    obtain ⟨f, hf⟩ : ∃ f, Gd.find I 40 3 (I i 2) (I i 0 - 2) = f := ⟨_, rfl⟩
    rw [hf] at cat
    have hf' := hide hf
    clear hf
    go_wp2_with fail
    refine (unhide cat).mono ?_
    rintro e w4 ⟨rfl, hg4⟩
    clear cat r0 r1 r2
    have hgw4 := hide (grown_trans (unhide hgw) hg4)
    have hgneP : Hid (g ≠ P) := by
      show g ≠ P
      have := (unhide hL').lt
      omega
    have hQa := hide ((unhide hQ).grown hg4 (by simp))
    have hgneQ : Hid (g ≠ Q) := by
      show g ≠ Q
      have := (unhide hL').lt
      have := unhide hQw
      omega
    by_cases hpos : 0 ≤ f
    · obtain ⟨m, rfl⟩ : ∃ m : Nat, f = (m : Int) := ⟨f.toNat, by omega⟩
      obtain ⟨hm, hmi⟩ : m < 40 ∧ i ≠ m := by
        obtain ⟨k, hk, e, hk1, _⟩ := Gd.find_pos (I := I) (n := 40) (w := 3) (a := I i 2) (b := I i 0 - 2) (by rw [unhide hf']; exact hpos)
        have := unhide hf'
        have hkm : k = m := by omega
        have h2 := unhide h2'
        subst hkm
        exact ⟨hk, by rintro rfl; omega⟩
      have hm' : (m : Int) < 40 := by omega
      have HRa := hide hm
      have HRz := hide hi
      have hJi := hide (show En.put I m (Gd.row (I m 0) (I i 1) (I i 2) (I i 3)) i = I i from En.put_other hmi)
      have hLa := hide ((unhide hLc).on hg4)
      have hPa := hide ((unhide hPc).grown hg4 (by simp))
      clear hg4 hm hi hmi hLc hPc hQ hgw hPw hQw
      have keepa : Hid (∀ x, Hid (w4.grownBy x none) → (x.cell? ⟨g, m * 4, none⟩ = some (.int .i64 (I m 0)) ∧ x.cell? ⟨g, m * 4 + 1, none⟩ = some (.int .i64 (I m 1)) ∧ x.cell? ⟨g, m * 4 + 2, none⟩ = some (.int .i64 (I m 2)) ∧ x.cell? ⟨g, m * 4 + 3, none⟩ = some (.int .i64 (I m 3)) ∧ x.cell? ⟨P, 0, none⟩ = some (.int .i64 (I i 1)) ∧ x.cell? ⟨P, 1, none⟩ = some (.int .i64 (I i 2)) ∧ x.cell? ⟨P, 2, none⟩ = some (.int .i64 (I i 3))) ∧ x.frozen? ⟨g, m * 4, none⟩ = false ∧ x.frozen? ⟨g, m * 4 + 1, none⟩ = false ∧ x.frozen? ⟨g, m * 4 + 2, none⟩ = false ∧ x.frozen? ⟨g, m * 4 + 3, none⟩ = false) := fun x hx => by
        have h1 := ((unhide hLa).on (unhide hx)).its (n := 40) (by omega) (by omega) |>.row (unhide HRa)
        have h2 := place_cells ((unhide hPa).grown (unhide hx) (by simp))
        have h3 := fun j => ((unhide hLa).on (unhide hx)).free j
        exact ⟨⟨h1.1, h1.2.1, h1.2.2.1, h1.2.2.2, h2.1, h2.2.1, h2.2.2⟩, h3 _, h3 _, h3 _, h3 _⟩
      have cma : Hid (∀ x, Hid (w4.grownBy x none) → Calls Try.prog 76 #[.agg #[.int .i64 (I m 0), .int .i64 (I m 1), .int .i64 (I m 2), .int .i64 (I m 3)], .agg #[.int .i64 (I i 1), .int .i64 (I i 2), .int .i64 (I i 3)]] x fun e w' => e = .returned (.agg #[.int .i64 (I m 0), .int .i64 (I i 1), .int .i64 (I i 2), .int .i64 (I i 3)]) ∧ Hid (w4.grownBy w' none)) := fun x hx => (moved_any _ _ _ _ _ _ _ x).mono fun e w' ⟨h1, h2⟩ => ⟨h1, grown_trans (unhide hx) h2⟩
      have hda : Hid (w4.grownBy w4.drew none) := grown_drew1 (World.grownBy.refl _ _)
      obtain ⟨⟨x0, x1, x2, x3, x4, x5, x6⟩, y0, y1, y2, y3⟩ := unhide keepa w4 (World.grownBy.refl _ _)
      go_upto_region 4 with fail
      go_cut [] from 25 (fun wx => Hid (Lie wx g 38 160 (Gd.flat (En.put I m (Gd.row (I m 0) (I i 1) (I i 2) (I i 3))))) ∧ Hid (w4.grownBy wx (some g)))
      case first =>
        go_region_with (first | (go_at_call 76; refine (unhide cma _ hda).mono ?_; rintro e w5 ⟨rfl, hga⟩; obtain ⟨⟨z0, z1, z2, z3, z4, z5, z6⟩, f0, f1, f2, f3⟩ := unhide keepa w5 hga))
        all_goals
          go_wp2_with fail
          go_meet
          exact ⟨((unhide hLa).on (unhide hga)).put m (I m 0) (I i 1) (I i 2) (I i 3), grown_put4 (grown_some (r := some g) (unhide hga)) m _ _ _ _⟩
      case rest =>
        obtain ⟨hLna, hgna⟩ := hcut
        clear keepa cma hda x0 x1 x2 x3 x4 x5 x6 y0 y1 y2 y3
        have hgb := hide (grown_trans (grown_some (r := some g) (unhide hgw4)) (unhide hgna))
        have hPb0 := (unhide hQa).grown (unhide hgna) (by simpa using unhide hgneQ)
        have hfin0 := Gd.wear_some (unhide hf') (unhide h2')
        have hLb0 := unhide hLna
        obtain ⟨J, hJ⟩ : ∃ J, En.put I m (Gd.row (I m 0) (I i 1) (I i 2) (I i 3)) = J := ⟨_, rfl⟩
        rw [hJ] at hLb0 hJi hfin0
        have hfin : Hid (Gd.wearAt I 40 (I i 2) i = En.put J i (Gd.row (J i 0) 3 (J i 2) (J i 0 - 2))) := by
          show _ = _
          rw [unhide hJi]
          exact hfin0
        have hLz := hide hLb0
        rw [← unhide hJi] at hPb0 ⊢
        have hPz := hide hPb0
        clear hPb0 hfin0 hLb0 hJ hLna hgna hQa hgw4 hf' hPa hLa
        have keepz : Hid (∀ x, Hid (wc.grownBy x none) → (x.cell? ⟨g, i * 4, none⟩ = some (.int .i64 (J i 0)) ∧ x.cell? ⟨g, i * 4 + 1, none⟩ = some (.int .i64 (J i 1)) ∧ x.cell? ⟨g, i * 4 + 2, none⟩ = some (.int .i64 (J i 2)) ∧ x.cell? ⟨g, i * 4 + 3, none⟩ = some (.int .i64 (J i 3)) ∧ x.cell? ⟨Q, 0, none⟩ = some (.int .i64 3) ∧ x.cell? ⟨Q, 1, none⟩ = some (.int .i64 (J i 2)) ∧ x.cell? ⟨Q, 2, none⟩ = some (.int .i64 (J i 0 - 2))) ∧ x.frozen? ⟨g, i * 4, none⟩ = false ∧ x.frozen? ⟨g, i * 4 + 1, none⟩ = false ∧ x.frozen? ⟨g, i * 4 + 2, none⟩ = false ∧ x.frozen? ⟨g, i * 4 + 3, none⟩ = false) := fun x hx => by
          have h1 := ((unhide hLz).on (unhide hx)).its (n := 40) (by omega) (by omega) |>.row (unhide HRz)
          have h2 := place_cells ((unhide hPz).grown (unhide hx) (by simp))
          have h3 := fun j => ((unhide hLz).on (unhide hx)).free j
          exact ⟨⟨h1.1, h1.2.1, h1.2.2.1, h1.2.2.2, h2.1, h2.2.1, h2.2.2⟩, h3 _, h3 _, h3 _, h3 _⟩
        have cmz : Hid (∀ x, Hid (wc.grownBy x none) → Calls Try.prog 76 #[.agg #[.int .i64 (J i 0), .int .i64 (J i 1), .int .i64 (J i 2), .int .i64 (J i 3)], .agg #[.int .i64 3, .int .i64 (J i 2), .int .i64 (J i 0 - 2)]] x fun e w' => e = .returned (.agg #[.int .i64 (J i 0), .int .i64 3, .int .i64 (J i 2), .int .i64 (J i 0 - 2)]) ∧ Hid (wc.grownBy w' none)) := fun x hx => (moved_any _ _ _ _ _ _ _ x).mono fun e w' ⟨h1, h2⟩ => ⟨h1, grown_trans (unhide hx) h2⟩
        have hdz : Hid (wc.grownBy wc.drew none) := grown_drew1 (World.grownBy.refl _ _)
        obtain ⟨⟨x0, x1, x2, x3, x4, x5, x6⟩, y0, y1, y2, y3⟩ := unhide keepz wc (World.grownBy.refl _ _)
        go_upto_region 5 with fail
        go_region_with (first | (go_at_call 76; refine (unhide cmz _ hdz).mono ?_; rintro e w6 ⟨rfl, hgz⟩; obtain ⟨⟨z0, z1, z2, z3, z4, z5, z6⟩, f0, f1, f2, f3⟩ := unhide keepz w6 hgz))
        all_goals
          have hfl := hide (((unhide hLz).on (unhide hgz)).put i (J i 0) 3 (J i 2) (J i 0 - 2))
          have hfg := hide (grown_trans (unhide hgb) (grown_put4 (grown_some (r := some g) (unhide hgz)) i (.int .i64 (J i 0)) (.int .i64 3) (.int .i64 (J i 2)) (.int .i64 (J i 0 - 2))))
          go_wp2
          go_end0
          exact ⟨rfl, by rw [unhide hfin]; exact unhide hfl, unhide hfg⟩
    · have hneg : f < 0 := by omega
      have hfin := hide (Gd.wear_none (I := I) (i := i) (by rw [unhide hf']; exact hneg))
      have HRz := hide hi
      have hLz := hide ((unhide hLc).on hg4)
      have hPz := hQa
      have hgb := hide (grown_some (r := some g) (unhide hgw4))
      clear hg4 hi hLc hPc hQ hgw hPw hQw hQa hgw4 hf'
      have keepz : Hid (∀ x, Hid (w4.grownBy x none) → (x.cell? ⟨g, i * 4, none⟩ = some (.int .i64 (I i 0)) ∧ x.cell? ⟨g, i * 4 + 1, none⟩ = some (.int .i64 (I i 1)) ∧ x.cell? ⟨g, i * 4 + 2, none⟩ = some (.int .i64 (I i 2)) ∧ x.cell? ⟨g, i * 4 + 3, none⟩ = some (.int .i64 (I i 3)) ∧ x.cell? ⟨Q, 0, none⟩ = some (.int .i64 3) ∧ x.cell? ⟨Q, 1, none⟩ = some (.int .i64 (I i 2)) ∧ x.cell? ⟨Q, 2, none⟩ = some (.int .i64 (I i 0 - 2))) ∧ x.frozen? ⟨g, i * 4, none⟩ = false ∧ x.frozen? ⟨g, i * 4 + 1, none⟩ = false ∧ x.frozen? ⟨g, i * 4 + 2, none⟩ = false ∧ x.frozen? ⟨g, i * 4 + 3, none⟩ = false) := fun x hx => by
        have h1 := ((unhide hLz).on (unhide hx)).its (n := 40) (by omega) (by omega) |>.row (unhide HRz)
        have h2 := place_cells ((unhide hPz).grown (unhide hx) (by simp))
        have h3 := fun j => ((unhide hLz).on (unhide hx)).free j
        exact ⟨⟨h1.1, h1.2.1, h1.2.2.1, h1.2.2.2, h2.1, h2.2.1, h2.2.2⟩, h3 _, h3 _, h3 _, h3 _⟩
      have cmz : Hid (∀ x, Hid (w4.grownBy x none) → Calls Try.prog 76 #[.agg #[.int .i64 (I i 0), .int .i64 (I i 1), .int .i64 (I i 2), .int .i64 (I i 3)], .agg #[.int .i64 3, .int .i64 (I i 2), .int .i64 (I i 0 - 2)]] x fun e w' => e = .returned (.agg #[.int .i64 (I i 0), .int .i64 3, .int .i64 (I i 2), .int .i64 (I i 0 - 2)]) ∧ Hid (w4.grownBy w' none)) := fun x hx => (moved_any _ _ _ _ _ _ _ x).mono fun e w' ⟨h1, h2⟩ => ⟨h1, grown_trans (unhide hx) h2⟩
      have hdz : Hid (w4.grownBy w4.drew none) := grown_drew1 (World.grownBy.refl _ _)
      obtain ⟨⟨x0, x1, x2, x3, x4, x5, x6⟩, y0, y1, y2, y3⟩ := unhide keepz w4 (World.grownBy.refl _ _)
      go_upto_region 5 with fail
      go_region_with (first | (go_at_call 76; refine (unhide cmz _ hdz).mono ?_; rintro e w6 ⟨rfl, hgz⟩; obtain ⟨⟨z0, z1, z2, z3, z4, z5, z6⟩, f0, f1, f2, f3⟩ := unhide keepz w6 hgz))
      all_goals
        have hfl := hide (((unhide hLz).on (unhide hgz)).put i (I i 0) 3 (I i 2) (I i 0 - 2))
        have hfg := hide (grown_trans (unhide hgb) (grown_put4 (grown_some (r := some g) (unhide hgz)) i (.int .i64 (I i 0)) (.int .i64 3) (.int .i64 (I i 2)) (.int .i64 (I i 0 - 2))))
        go_wp2
        go_end0
        exact ⟨rfl, by rw [unhide hfin]; exact unhide hfl, unhide hfg⟩

end Go.Proofs.Ytgkomdpceilggaa

namespace Go.Proofs.Ytgkomdpceilggaa
open Go.RowKit

set_option maxHeartbeats 800000 in
theorem refIn7_same (b n c : Nat) (I : Nat → Nat → Int) (p a q : Int) (w : World) (hI : Its w b 0 n I) :
    Calls Try.prog 38 #[.slice (some ⟨b, 0, none⟩) n c, .int .i64 p, .int .i64 a, .int .i64 q] w fun e w' => e = .returned (.int .i64 (Gd.find I n p a q)) ∧ w' = w := by
  have hn := hI.1
  have hI' := hide hI
  clear hI
  go_enter Try.func38, Try.ntmps38
  go_wp2_with fail
  go_loop [9] (fun i => ∃ k : Nat, k ≤ n ∧ i = .int .i64 (k : Int) ∧ ∀ j, j < k → Gd.inQ I p a q j = false) (fun i => 200 - (intOf i).toNat)
  case atStart => exact ⟨0, by omega, rfl, fun j hj => by omega⟩
  case round =>
    obtain ⟨k, hk, rfl, hno⟩ := hrel
    have hno' := hide hno
    clear hno
    by_cases hlt : k < n
    · obtain ⟨_, u1, u2, u3⟩ := (unhide hI').row hlt
      have hlt' : (k : Int) < (n : Int) := by omega
      have HL := hide hlt
      clear hlt
      by_cases h1 : I k 1 = p
      · by_cases h2 : I k 2 = a
        · by_cases h3 : I k 3 = q
          · have he := hide (En.first_hit (unhide hno') (Gd.inQ_yes h1 h2 h3) (unhide HL))
            go_wp2
            go_ret
            exact ⟨ret_int (unhide he).symm, rfl⟩
          · have hq := hide (Gd.inQ_no (I := I) (p := p) (a := a) (q := q) (k := k) (fun h => h3 h.2.2))
            have h3' : (I k 3 == q) = false := by simp [h3]
            go_wp2
            go_round
            case rel => exact ⟨k + 1, by have := unhide HL; omega, by go_num, fun j hj => by
              by_cases e : j = k
              · rw [e]; exact unhide hq
              · exact unhide hno' j (by omega)⟩
            case measure => simp [intOf]; omega
        · have hq := hide (Gd.inQ_no (I := I) (p := p) (a := a) (q := q) (k := k) (fun h => h2 h.2.1))
          have h2' : (I k 2 == a) = false := by simp [h2]
          go_wp2
          go_round
          case rel => exact ⟨k + 1, by have := unhide HL; omega, by go_num, fun j hj => by
            by_cases e : j = k
            · rw [e]; exact unhide hq
            · exact unhide hno' j (by omega)⟩
          case measure => simp [intOf]; omega
      · have hq := hide (Gd.inQ_no (I := I) (p := p) (a := a) (q := q) (k := k) (fun h => h1 h.1))
        have h1' : (I k 1 == p) = false := by simp [h1]
        go_wp2
        go_round
        case rel => exact ⟨k + 1, by have := unhide HL; omega, by go_num, fun j hj => by
          by_cases e : j = k
          · rw [e]; exact unhide hq
          · exact unhide hno' j (by omega)⟩
        case measure => simp [intOf]; omega
    · have hge : ¬ (k : Int) < (n : Int) := by omega
      have he := hide (En.first_none (n := n) (fun j hj => unhide hno' j (by omega)))
      go_wp2
      go_ret
      exact ⟨ret_int (unhide he).symm, rfl⟩

set_option maxHeartbeats 800000 in
theorem refSlot_same (b n c : Nat) (I : Nat → Nat → Int) (seat : Int) (w : World) (hI : Its w b 0 n I) :
    Calls Try.prog 43 #[.slice (some ⟨b, 0, none⟩) n c, .int .i64 seat] w fun e w' => e = .returned (.int .i64 (Gd.slot I n seat)) ∧ w' = w := by
  have ci : Hid (∀ q, Calls Try.prog 38 #[.slice (some ⟨b, 0, none⟩) n c, .int .i64 2, .int .i64 seat, .int .i64 q] w fun e w' => e = .returned (.int .i64 (Gd.find I n 2 seat q)) ∧ w' = w) := fun q => refIn7_same b n c I 2 seat q w hI
  clear hI
  go_enter Try.func43, Try.ntmps43
  go_wp2_with fail
  go_loop [5] (fun i => ∃ k : Nat, k ≤ 4 ∧ i = .int .i64 (k : Int) ∧ (∀ j : Nat, j < k → decide (Gd.find I n 2 seat (j : Int) < 0) = false)) (fun i => 200 - (intOf i).toNat)
  case atStart => exact ⟨0, by omega, rfl, fun j hj => by omega⟩
  case round =>
    obtain ⟨k, hk, rfl, hno⟩ := hrel
    have hno' := hide hno
    clear hno
    by_cases hlt : k < 4
    · have hlt' : (k : Int) < 4 := by omega
      have HL := hide hlt
      have cat := hide (unhide ci (k : Int))
      obtain ⟨f, hf⟩ : ∃ f, Gd.find I n 2 seat (k : Int) = f := ⟨_, rfl⟩
      rw [hf] at cat
      have hf' := hide hf
      clear hlt hf
      go_wp2_with fail
      refine (unhide cat).mono ?_
      rintro e w1 ⟨rfl, hw⟩
      subst w1
      clear cat
      by_cases hneg : f < 0
      · have he := hide (En.first_hit (q := fun b : Nat => decide (Gd.find I n 2 seat (b : Int) < 0)) (unhide hno') (by show decide _ = true; rw [unhide hf']; exact decide_eq_true hneg) (unhide HL))
        go_wp2
        go_ret
        exact ⟨ret_int (unhide he).symm, rfl⟩
      · have hq := hide (show decide (Gd.find I n 2 seat (k : Int) < 0) = false by rw [unhide hf']; exact decide_eq_false hneg)
        go_wp2
        go_round
        case rel => exact ⟨k + 1, by have := unhide HL; omega, by go_num, fun j hj => by
          by_cases e : j = k
          · rw [e]; exact unhide hq
          · exact unhide hno' j (by omega)⟩
        case measure => simp [intOf]; omega
    · have hge : ¬ (k : Int) < 4 := by omega
      have he := hide (En.first_none (n := 4) (q := fun b : Nat => decide (Gd.find I n 2 seat (b : Int) < 0)) (fun j hj => unhide hno' j (by omega)))
      go_wp2
      go_ret
      exact ⟨ret_int (unhide he).symm, rfl⟩

set_option maxHeartbeats 800000 in
theorem refHas_same (b n c : Nat) (I : Nat → Nat → Int) (seat lo hi : Int) (w : World) (hI : Its w b 0 n I) :
    Calls Try.prog 45 #[.slice (some ⟨b, 0, none⟩) n c, .int .i64 seat, .int .i64 lo, .int .i64 hi] w fun e w' => e = .returned (.int .i64 (Gd.has I n seat lo hi)) ∧ w' = w := by
  have ci : Hid (∀ q, Calls Try.prog 38 #[.slice (some ⟨b, 0, none⟩) n c, .int .i64 2, .int .i64 seat, .int .i64 q] w fun e w' => e = .returned (.int .i64 (Gd.find I n 2 seat q)) ∧ w' = w) := fun q => refIn7_same b n c I 2 seat q w hI
  have hI' := hide hI
  clear hI
  rw [Gd.has_car]
  go_enter Try.func45, Try.ntmps45
  go_wp2_with fail
  go_loop [9] (fun i => ∃ k : Nat, k ≤ 4 ∧ i = .int .i64 (k : Int) ∧ (∀ j : Nat, j < k → Gd.carQ I n seat (fun k => decide (lo ≤ k) && decide (k ≤ hi)) j = false)) (fun i => 200 - (intOf i).toNat)
  case atStart => exact ⟨0, by omega, rfl, fun j hj => by omega⟩
  case round =>
    obtain ⟨k, hk, rfl, hno⟩ := hrel
    have hno' := hide hno
    clear hno
    by_cases hlt : k < 4
    · have hlt' : (k : Int) < 4 := by omega
      have HL := hide hlt
      have cat := hide (unhide ci (k : Int))
      have hfl := hide (Gd.find_lt (I := I) (n := n) (p := 2) (a := seat) (q := (k : Int)))
      have hqd := hide (show Gd.carQ I n seat (fun k => decide (lo ≤ k) && decide (k ≤ hi)) k = (decide (0 ≤ Gd.find I n 2 seat (k : Int)) && (decide (lo ≤ I (Gd.find I n 2 seat (k : Int)).toNat 0) && decide (I (Gd.find I n 2 seat (k : Int)).toNat 0 ≤ hi))) from rfl)
      obtain ⟨f, hf⟩ : ∃ f, Gd.find I n 2 seat (k : Int) = f := ⟨_, rfl⟩
      have hf' := hide hf
      rw [hf] at cat hfl hqd
      clear hlt hf
      go_wp2_with fail
      refine (unhide cat).mono ?_
      rintro e w1 ⟨rfl, hw⟩
      subst w1
      clear cat
      by_cases hpos : 0 ≤ f
      · obtain ⟨m, hm, rfl⟩ : ∃ m : Nat, m < n ∧ f = (m : Int) := ⟨f.toNat, (unhide hfl hpos).1, (unhide hfl hpos).2⟩
        have u0 := ((unhide hI').row hm).1
        have hm' : (m : Int) < (n : Int) := by omega
        have hqd2 : Hid (Gd.carQ I n seat (fun k => decide (lo ≤ k) && decide (k ≤ hi)) k = (decide (lo ≤ I m 0) && decide (I m 0 ≤ hi))) := by
          show _ = _
          rw [unhide hqd, decide_eq_true hpos, Bool.true_and, Int.toNat_natCast]
        clear hfl hqd hm
        by_cases hlo : lo ≤ I m 0
        · by_cases hhi : I m 0 ≤ hi
          · have he := hide ((Gd.car_hit (unhide hno') ((unhide hqd2).trans (by simp [hlo, hhi])) (unhide HL)).trans (unhide hf'))
            go_wp2
            go_ret
            exact ⟨ret_int (unhide he).symm, rfl⟩
          · have hqf := hide ((unhide hqd2).trans (by simp [hhi] : _ = false))
            go_wp2
            go_round
            case rel => exact ⟨k + 1, by have := unhide HL; omega, by go_num, fun j hj => by
              by_cases e : j = k
              · rw [e]; exact unhide hqf
              · exact unhide hno' j (by omega)⟩
            case measure => simp [intOf]; omega
        · have hqf := hide ((unhide hqd2).trans (by simp [hlo] : _ = false))
          go_wp2
          go_round
          case rel => exact ⟨k + 1, by have := unhide HL; omega, by go_num, fun j hj => by
            by_cases e : j = k
            · rw [e]; exact unhide hqf
            · exact unhide hno' j (by omega)⟩
          case measure => simp [intOf]; omega
      · have hqf : Hid (Gd.carQ I n seat (fun k => decide (lo ≤ k) && decide (k ≤ hi)) k = false) := by
          show _ = _
          rw [unhide hqd, decide_eq_false hpos, Bool.false_and]
        have hneg : f < 0 := by omega
        clear hfl hqd
        go_wp2
        go_round
        case rel => exact ⟨k + 1, by have := unhide HL; omega, by go_num, fun j hj => by
          by_cases e : j = k
          · rw [e]; exact unhide hqf
          · exact unhide hno' j (by omega)⟩
        case measure => simp [intOf]; omega
    · have hge : ¬ (k : Int) < 4 := by omega
      have he := hide (Gd.car_none (fun j hj => unhide hno' j (by omega)))
      go_wp2
      go_ret
      exact ⟨ret_int (unhide he).symm, rfl⟩

theorem refPotion_same (b n c : Nat) (I : Nat → Nat → Int) (seat : Int) (w : World) (hI : Its w b 0 n I) :
    Calls Try.prog 44 #[.slice (some ⟨b, 0, none⟩) n c, .int .i64 seat] w fun e w' => e = .returned (.int .i64 (Gd.has I n seat 1 1)) ∧ w' = w := by
  have ch := hide (refHas_same b n c I seat 1 1 w hI)
  clear hI
  obtain ⟨r, hr⟩ : ∃ r, Gd.has I n seat 1 1 = r := ⟨_, rfl⟩
  rw [hr] at ch ⊢
  clear hr
  go_enter Try.func44, Try.ntmps44
  go_wp2_with fail
  refine (unhide ch).mono ?_
  rintro e w1 ⟨rfl, hw⟩
  subst w1
  clear ch
  go_wp2
  go_ret
  exact ⟨rfl, rfl⟩

end Go.Proofs.Ytgkomdpceilggaa

namespace Go.Proofs.Ytgkomdpceilggaa
open Go.RowKit

/-- Nothing has turned but new blocks, and elder ones that 'base' leaves open. -/
structure Frame (base : Nat → Prop) (x y : World) : Prop where
  os : y.os = x.os
  tape : y.tape = x.tape
  output : y.output = x.output
  size : x.heap.size ≤ y.heap.size
  block : ∀ i, i < x.heap.size → base i → y.heap[i]? = x.heap[i]?

theorem Frame.refl (base : Nat → Prop) (x : World) : Frame base x x := ⟨rfl, rfl, rfl, Nat.le_refl _, fun _ _ _ => rfl⟩

/-- What is left behind by a hero's deed: the world's own box and lists; nothing else has turned. -/
def Gd.Acted (base : Nat → Prop) (x : World) (B gC gE gI cC cE cI : Nat) (s g c : Nat → Int) (E I : Nat → Nat → Int) (e : Ending) (x' : World) : Prop :=
  e = .returned (.tuple #[]) ∧ Gd.Hold x' B gC gE gI cC cE cI s g c E I ∧ Frame base x x'

theorem below_set {b : Nat → Prop} {x y : World} (h : Frame b x y) (p i : Nat) (hp : ¬ b p) (u : Value) : Frame b x (y.setCell ⟨p, i, none⟩ u) :=
  ⟨h.os, h.tape, h.output, by simpa using h.size, fun k hk hb => (heap_setCell_other y ⟨p, i, none⟩ k u (by show k ≠ p; rintro rfl; exact hp hb)).trans (h.block k hk hb)⟩

theorem below_more {b : Nat → Prop} {x y z : World} (h : Frame b x y) (hg : y.grownBy z none) : Frame b x z :=
  ⟨hg.os.trans h.os, hg.tape.trans h.tape, hg.output.trans h.output, Nat.le_trans h.size hg.size, fun k hk hb => (hg.block k (Nat.lt_of_lt_of_le hk h.size) (fun e => by cases e)).trans (h.block k hk hb)⟩

theorem below_root {b : Nat → Prop} {x y z : World} {r : Nat} (h : Frame b x y) (hg : y.grownBy z (some r)) (hr : ¬ b r) : Frame b x z :=
  ⟨hg.os.trans h.os, hg.tape.trans h.tape, hg.output.trans h.output, Nat.le_trans h.size hg.size, fun k hk hb => (hg.block k (Nat.lt_of_lt_of_le hk h.size) (fun e => by cases e; exact hr hb)).trans (h.block k hk hb)⟩

theorem Lie.frame {b : Nat → Prop} {x y : World} {g : Nat} {T : TypeId} {m : Nat} {F : Nat → Value} (h : Lie x g T m F) (hf : Frame b x y) (hg : b g) : Lie y g T m F := by
  obtain ⟨M, K, ⟨cur, h1, h2, h3⟩, hm, hk⟩ := h
  exact ⟨M, K, ⟨cur, (hf.block g (lt_of_block h1) hg).trans h1, h2, h3⟩, hm, hk⟩

/-- What a call has made and turned, seen from a world ahead of it: new blocks alone. -/
theorem Frame.grown {b : Nat → Prop} {w x y : World} (hf : Frame b x y) (hg : w.grownBy x none) (hb : ∀ i, i < w.heap.size → b i) : w.grownBy y none :=
  ⟨hf.os.trans hg.os, hf.tape.trans hg.tape, hf.output.trans hg.output, Nat.le_trans hg.size hf.size, fun i hi hr => (hf.block i (Nat.lt_of_lt_of_le hi hg.size) (hb i hi)).trans (hg.block i hi hr)⟩

/-- A hero heals. -/
def Gd.heal (E : Nat → Nat → Int) (k : Nat) : Nat → Nat → Int := Gd.set (Gd.set E k 5 (min (E k 5 + 6) (E k 6))) k 9 0

theorem Gd.row_gone : Gd.row 0 0 0 0 = Gd.gone := by
  funext j
  unfold Gd.row Gd.gone
  split <;> rfl

theorem Gd.Hold.put {x : World} {B gC gE gI cC cE cI : Nat} {s g c : Nat → Int} {E I : Nat → Nat → Int} (h : Gd.Hold x B gC gE gI cC cE cI s g c E I) (m : Nat) (a b d e : Int) : Gd.Hold ((((x.setCell ⟨gI, m * 4, none⟩ (.int .i64 a)).setCell ⟨gI, m * 4 + 1, none⟩ (.int .i64 b)).setCell ⟨gI, m * 4 + 2, none⟩ (.int .i64 d)).setCell ⟨gI, m * 4 + 3, none⟩ (.int .i64 e)) B gC gE gI cC cE cI s g c E (En.put I m (Gd.row a b d e)) :=
  h.items (grown_put4 (World.grownBy.refl _ _) m _ _ _ _) (h.lists.items.put m a b d e)

theorem below_put4 {b : Nat → Prop} {x y : World} (h : Frame b x y) {p : Nat} (hp : ¬ b p) (m : Nat) (v0 v1 v2 v3 : Value) : Frame b x ((((y.setCell ⟨p, m * 4, none⟩ v0).setCell ⟨p, m * 4 + 1, none⟩ v1).setCell ⟨p, m * 4 + 2, none⟩ v2).setCell ⟨p, m * 4 + 3, none⟩ v3) :=
  below_set (below_set (below_set (below_set h p _ hp _) p _ hp _) p _ hp _) p _ hp _

theorem Gd.Hold.heals {x : World} {B gC gE gI cC cE cI : Nat} {s g c : Nat → Int} {E I : Nat → Nat → Int} (h : Gd.Hold x B gC gE gI cC cE cI s g c E I) (k m : Nat) (v : Int) (hv : v = min (E k 5 + 6) (E k 6)) : Gd.Hold ((((((x.setCell ⟨gE, k * 11 + 5, none⟩ (.int .i64 v)).setCell ⟨gE, k * 11 + 9, none⟩ (.int .i64 0)).setCell ⟨gI, m * 4, none⟩ (.int .i64 0)).setCell ⟨gI, m * 4 + 1, none⟩ (.int .i64 0)).setCell ⟨gI, m * 4 + 2, none⟩ (.int .i64 0)).setCell ⟨gI, m * 4 + 3, none⟩ (.int .i64 0)) B gC gE gI cC cE cI s g c (Gd.heal E k) (En.put I m Gd.gone) := by
  rw [← Gd.row_gone]
  have h1 := h.ents (grown_set0 x gE (k * 11 + 5) (.int .i64 v)) (h.lists.ents.stat k 5 (by omega) v)
  have h2 := h1.ents (grown_set0 _ gE (k * 11 + 9) (.int .i64 0)) (h1.lists.ents.stat k 9 (by omega) 0)
  have h3 := h2.put m 0 0 0 0
  unfold Gd.heal
  rw [← hv]
  exact h3

set_option maxHeartbeats 3200000 in
theorem act_none (base : Nat → Prop) (B gC gE gI cC cE cI k t : Nat) (s g c : Nat → Int) (E I : Nat → Nat → Int) (input : Int) (x : World) (H : Gd.Hold x B gC gE gI cC cE cI s g c E I) (hk : k < 32) (ht : t < 4) (he : E k 2 = (t : Int)) (hc : ∀ i, 0 ≤ c i ∧ c i ≤ 255) (hw : Gd.want I (t : Int) (E k 3) (E k 4) (decide (Gr.at 384 c (E k 3) (E k 4) = 5)) (g t) input < 0) :
    Calls Try.prog 42 #[.pointer (some ⟨B, 0, none⟩), .pointer (some ⟨gE, k * 11, none⟩), .int .i64 input] x (Gd.Acted base x B gC gE gI cC cE cI s g c E I) := by
  have cw := hide (wanted_any B gC gE gI cC cI k t (E k 3) (E k 4) (g t) input c I x (H.near hk ht he) H.lists.vec hc H.lists.its)
  have H' := hide H
  obtain ⟨r, hr⟩ : ∃ r, Gd.want I (t : Int) (E k 3) (E k 4) (decide (Gr.at 384 c (E k 3) (E k 4) = 5)) (g t) input = r := ⟨_, rfl⟩
  rw [hr] at cw hw
  clear H hc hr he
  go_enter Try.func42, Try.ntmps42
  go_wp2_with fail
  refine (unhide cw).mono ?_
  rintro e w1 ⟨rfl, hg1⟩
  have hfin := hide (show Gd.Hold w1 B gC gE gI cC cE cI s g c E I ∧ Frame base x w1 from ⟨(unhide H').on hg1, below_more (Frame.refl _ _) hg1⟩)
  clear hg1 cw
  go_wp2
  go_end0
  exact ⟨rfl, (unhide hfin).1, (unhide hfin).2⟩

set_option maxHeartbeats 3200000 in
theorem act_use (base : Nat → Prop) (B gC gE gI cC cE cI k t m : Nat) (s g c : Nat → Int) (E I : Nat → Nat → Int) (x : World) (H : Gd.Hold x B gC gE gI cC cE cI s g c E I) (hk : k < 32) (ht : t < 4) (he : E k 2 = (t : Int)) (hc : ∀ i, 0 ≤ c i ∧ c i ≤ 255) (hbE : ¬ base gE) (hbI : ¬ base gI) (h0 : 0 ≤ E k 5) (h1 : E k 5 ≤ 1000) (hm : m < 40) (hw : Gd.want I (t : Int) (E k 3) (E k 4) (decide (Gr.at 384 c (E k 3) (E k 4) = 5)) (g t) 6 = (m : Int)) :
    Calls Try.prog 42 #[.pointer (some ⟨B, 0, none⟩), .pointer (some ⟨gE, k * 11, none⟩), .int .i64 6] x (Gd.Acted base x B gC gE gI cC cE cI s g c (Gd.heal E k) (En.put I m Gd.gone)) := by
  have cw := wanted_any B gC gE gI cC cI k t (E k 3) (E k 4) (g t) 6 c I x (H.near hk ht he) H.lists.vec hc H.lists.its
  rw [hw] at cw
  have cw' := hide cw
  have H' := hide H
  have HN := hide (fun (y : World) (hy : x.grownBy y none) => (H.on hy).near hk ht he)
  have HE := hide (fun (y : World) (hy : x.grownBy y none) => (H.on hy).lists.own.ents.row hk)
  have hm' : (m : Int) < 40 := by omega
  have ht' : (t : Int) < 4 := by omega
  clear H hc hw he cw
  go_enter Try.func42, Try.ntmps42
  go_wp2_with fail
  refine (unhide cw').mono ?_
  rintro e w1 ⟨rfl, hg1⟩
  obtain ⟨lB, lE, k32, s4, b4, b6, b7, e2, e3, e4⟩ := unhide HN w1 hg1
  have hg1' := hide hg1
  clear hg1 cw' b4
  go_wp2_with fail
  go_quiet (fail)
  obtain ⟨w2, hw2⟩ : ∃ w2, w1.drewN nq = w2 := ⟨_, rfl⟩
  have hg2 := hide (show x.grownBy w2 none by rw [← hw2]; exact grown_drew (unhide hg1') _)
  rw [hw2]
  clear hw2 b6 b7 e2 e3 e4 hg1'
  obtain ⟨_, _, _, _, _, r5, r6, _, _, r9, _⟩ := unhide HE w2 (unhide hg2)
  have fE := ((unhide H').on (unhide hg2)).lists.ents.free
  have fI := ((unhide H').on (unhide hg2)).lists.items.free
  obtain ⟨i0, i1, i2, i3⟩ := ((unhide H').on (unhide hg2)).lists.its.row hm
  have neEI := (unhide H').eI
  have neIE := neEI.symm
  have hH := hide (fun v hv => (((unhide H').on (unhide hg2)).heals k m v hv).on (grown_drew1 (World.grownBy.refl _ none)))
  have hB := hide (fun (v : Value) => below_more (below_put4 (below_set (below_set (below_more (Frame.refl base x) (unhide hg2)) gE (k * 11 + 5) hbE v) gE (k * 11 + 9) hbE (.int .i64 0)) hbI m (.int .i64 0) (.int .i64 0) (.int .i64 0) (.int .i64 0)) (grown_drew1 (World.grownBy.refl _ none)))
  clear hbE hbI
  go_wp2_with fail
  go_region
  go_wp2
  all_goals
    go_end0
    exact ⟨rfl, unhide hH _ (by omega), unhide hB _⟩

end Go.Proofs.Ytgkomdpceilggaa
