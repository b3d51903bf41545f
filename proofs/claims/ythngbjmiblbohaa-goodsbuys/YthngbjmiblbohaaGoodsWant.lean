/-
  The shop's ware for a hero, and which item an input is about, in goods.
-/
import Derived.Test.YthngbjmiblbohaaGoodsBag
namespace Go.Proofs.Ythngbjmiblbohaa
open Go.RowKit

theorem Gd.ware_hit {I : Nat → Nat → Int} {n k : Nat} (hno : ∀ j : Nat, j < k → decide (0 ≤ Gd.find I n 4 (j : Int) 0) = false) (hk : 0 ≤ Gd.find I n 4 (k : Int) 0) (h3 : k < 3) : Gd.ware I n = Gd.find I n 4 (k : Int) 0 := by
  unfold Gd.ware
  rw [En.first_hit (q := fun k : Nat => decide (0 ≤ Gd.find I n 4 (k : Int) 0)) hno (decide_eq_true hk) h3, if_pos (by omega)]

theorem Gd.ware_none {I : Nat → Nat → Int} {n : Nat} (hno : ∀ j : Nat, j < 3 → decide (0 ≤ Gd.find I n 4 (j : Int) 0) = false) : Gd.ware I n = -1 := by
  unfold Gd.ware
  rw [En.first_none (q := fun k : Nat => decide (0 ≤ Gd.find I n 4 (k : Int) 0)) hno, if_neg (by omega)]

/-- What a hero, at row k of a world that lies in memory, is told by: its seat, its place; the gold of its seat. -/
structure Gd.Near (x : World) (B gC gE gI cC cI k s : Nat) (X Y G : Int) : Prop where
  lB : B < x.heap.size
  lE : gE < x.heap.size
  k32 : k < 32
  s4 : s < 4
  b4 : x.cell? ⟨B, 4, none⟩ = some (.slice (some ⟨gC, 0, none⟩) 384 cC)
  b6 : x.cell? ⟨B, 6, none⟩ = some (.slice (some ⟨gI, 0, none⟩) 40 cI)
  b7 : x.cell? ⟨B, 7 + s, none⟩ = some (.int .i64 G)
  e2 : x.cell? ⟨gE, k * 11 + 2, none⟩ = some (.int .i64 (s : Int))
  e3 : x.cell? ⟨gE, k * 11 + 3, none⟩ = some (.int .i64 X)
  e4 : x.cell? ⟨gE, k * 11 + 4, none⟩ = some (.int .i64 Y)

theorem Gd.Near.on {x y : World} {B gC gE gI cC cI k s : Nat} {X Y G : Int} (h : Gd.Near x B gC gE gI cC cI k s X Y G) (hg : x.grownBy y none) : Gd.Near y B gC gE gI cC cI k s X Y G :=
  have t := fun (b i : Nat) (hb : b < x.heap.size) => grown_cell hg b i hb (by simp)
  { lB := Nat.lt_of_lt_of_le h.lB hg.size, lE := Nat.lt_of_lt_of_le h.lE hg.size, k32 := h.k32, s4 := h.s4, b4 := (t _ _ h.lB).trans h.b4, b6 := (t _ _ h.lB).trans h.b6, b7 := (t _ _ h.lB).trans h.b7, e2 := (t _ _ h.lE).trans h.e2, e3 := (t _ _ h.lE).trans h.e3, e4 := (t _ _ h.lE).trans h.e4 }

theorem Gd.Hold.near {x : World} {B gC gE gI cC cE cI : Nat} {s g c : Nat → Int} {E I : Nat → Nat → Int} (h : Gd.Hold x B gC gE gI cC cE cI s g c E I) {k t : Nat} (hk : k < 32) (ht : t < 4) (he : E k 2 = (t : Int)) : Gd.Near x B gC gE gI cC cI k t (E k 3) (E k 4) (g t) :=
  have r := h.lists.own.ents.row hk
  { lB := h.box.lt, lE := h.lists.ents.lt, k32 := hk, s4 := ht, b4 := h.box.cell (c := 4) (by omega), b6 := h.box.cell (c := 6) (by omega), b7 := by rw [h.box.cell (c := 7 + t) (by omega), Gd.box_gold _ _ _ _ _ _ _ _ t ht], e2 := by rw [← he]; exact r.2.2.1, e3 := r.2.2.2.1, e4 := r.2.2.2.2.1 }

set_option maxHeartbeats 1600000 in
theorem ware_not (B gC gE gI cC cI k s : Nat) (X Y G A : Int) (w : World) (hN : Gd.Near w B gC gE gI cC cI k s X Y G) (cA : ∀ m, Calls Try.prog 61 #[.slice (some ⟨gC, 0, none⟩) 384 cC, .int .i64 X, .int .i64 Y] (w.drewN m) fun e w' => e = .returned (.int .i64 A) ∧ w' = w.drewN m) (hA : ¬ A = 5) :
    Calls Try.prog 67 #[.pointer (some ⟨B, 0, none⟩), .pointer (some ⟨gE, k * 11, none⟩)] w (Says w (.int .i64 (-1))) := by
  obtain ⟨lB, lE, k32, s4, b4, b6, b7, e2, e3, e4⟩ := hN
  have s4' : (s : Int) < 4 := by omega
  have hA' : (A == 5) = false := by simp [hA]
  have hdr : Hid (∀ m, w.grownBy (w.drewN m) none) := fun m => grown_drew (World.grownBy.refl _ _) m
  go_enter Try.func67, Try.ntmps67
  go_wp2_with fail
  go_quiet ((go_at_call 61; exact Calls.quiet_of_same (cA _)))
  go_wp2
  go_ret
  exact ⟨rfl, unhide hdr _⟩

set_option maxHeartbeats 1600000 in
theorem ware_poor (B gC gE gI cC cI k s : Nat) (X Y G : Int) (w : World) (hN : Gd.Near w B gC gE gI cC cI k s X Y G) (cA : ∀ m, Calls Try.prog 61 #[.slice (some ⟨gC, 0, none⟩) 384 cC, .int .i64 X, .int .i64 Y] (w.drewN m) fun e w' => e = .returned (.int .i64 5) ∧ w' = w.drewN m) (hG : G < 5) :
    Calls Try.prog 67 #[.pointer (some ⟨B, 0, none⟩), .pointer (some ⟨gE, k * 11, none⟩)] w (Says w (.int .i64 (-1))) := by
  obtain ⟨lB, lE, k32, s4, b4, b6, b7, e2, e3, e4⟩ := hN
  have s4' : (s : Int) < 4 := by omega
  have hdr : Hid (∀ m, w.grownBy (w.drewN m) none) := fun m => grown_drew (World.grownBy.refl _ _) m
  go_enter Try.func67, Try.ntmps67
  go_wp2_with fail
  go_quiet ((go_at_call 61; exact Calls.quiet_of_same (cA _)))
  go_wp2
  go_ret
  exact ⟨rfl, unhide hdr _⟩

set_option maxHeartbeats 1600000 in
theorem ware_shop (B gC gE gI cC cI k s : Nat) (X Y G : Int) (w : World) (hN : Gd.Near w B gC gE gI cC cI k s X Y G) (cA : ∀ m, Calls Try.prog 61 #[.slice (some ⟨gC, 0, none⟩) 384 cC, .int .i64 X, .int .i64 Y] (w.drewN m) fun e w' => e = .returned (.int .i64 5) ∧ w' = w.drewN m) (hG : ¬ G < 5) (I : Nat → Nat → Int) (hI : Its w gI 0 40 I) :
    Calls Try.prog 67 #[.pointer (some ⟨B, 0, none⟩), .pointer (some ⟨gE, k * 11, none⟩)] w (Says w (.int .i64 (Gd.ware I 40))) := by
  have hN' := hide hN
  have hI' := hide hI
  obtain ⟨lB, lE, k32, s4, b4, b6, b7, e2, e3, e4⟩ := hN
  have s4' : (s : Int) < 4 := by omega
  have hdr : Hid (∀ m, w.grownBy (w.drewN m) none) := fun m => grown_drew (World.grownBy.refl _ _) m
  clear hI
  go_enter Try.func67, Try.ntmps67
  go_wp2_with fail
  go_quiet ((go_at_call 61; exact Calls.quiet_of_same (cA _)))
  obtain ⟨wq, hwq⟩ : ∃ wq, w.drewN nq = wq := ⟨_, rfl⟩
  have hgq := hide (unhide hdr nq)
  rw [hwq] at hgq ⊢
  clear b4 b6 b7 e2 e3 e4 cA hdr hwq
  go_wp2_with fail
  go_loopw [33] (fun i wr => ∃ j : Nat, j ≤ 3 ∧ i = .int .i64 (j : Int) ∧ (∀ t : Nat, t < j → decide (0 ≤ Gd.find I 40 4 (t : Int) 0) = false) ∧ w.grownBy wr none) (fun i _ => 200 - (intOf i).toNat)
  case atStart => exact ⟨0, by omega, rfl, fun j hj => by omega, unhide hgq⟩
  case round =>
    obtain ⟨j, hj, rfl, hno, hgr⟩ := hrel
    have hno' := hide hno
    have hgr' := hide hgr
    clear hno hgr
    by_cases hlt : j < 3
    · have hlt' : (j : Int) < 3 := by omega
      have HL := hide hlt
      have b6 := ((unhide hN').on (unhide hgr')).b6
      have cat := hide (goodsAt_any gI 40 cI I 4 (j : Int) 0 wr ((unhide hI').on (unhide hgr')))
      obtain ⟨f, hf⟩ : ∃ f, Gd.find I 40 4 (j : Int) 0 = f := ⟨_, rfl⟩
      rw [hf] at cat
      have hf' := hide hf
      clear hlt hf
      go_wp2_with fail
      refine (unhide cat).mono ?_
      rintro e w1 ⟨rfl, hg1⟩
      have hg2 := hide (grown_trans (unhide hgr') hg1)
      clear hg1 cat b6
      by_cases hpos : 0 ≤ f
      · have he := hide ((Gd.ware_hit (unhide hno') (by rw [unhide hf']; exact hpos) (unhide HL)).trans (unhide hf'))
        go_wp2
        go_ret
        exact ⟨ret_int (unhide he).symm, unhide hg2⟩
      · have hq := hide (show decide (0 ≤ Gd.find I 40 4 (j : Int) 0) = false by rw [unhide hf']; exact decide_eq_false hpos)
        have hneg : f < 0 := by omega
        go_wp2
        go_roundw
        case rel => exact ⟨j + 1, by have := unhide HL; omega, by go_num, fun t ht => by
          by_cases e : t = j
          · rw [e]; exact unhide hq
          · exact unhide hno' t (by omega), unhide hg2⟩
        case measure => simp [intOf]; omega
    · have hge : ¬ (j : Int) < 3 := by omega
      have he := hide (Gd.ware_none (I := I) (n := 40) (fun t ht => unhide hno' t (by omega)))
      go_wp2
      go_ret
      exact ⟨ret_int (unhide he).symm, unhide hgr'⟩

/-- Which item an input is about. -/
def Gd.want (I : Nat → Nat → Int) (s X Y : Int) (shop : Bool) (G input : Int) : Int :=
  if input = 5 then Gd.find I 40 1 X Y
  else if input = 10 then (if shop = true ∧ 5 ≤ G then Gd.ware I 40 else -1)
  else if input = 8 then (if 0 ≤ Gd.find I 40 1 X Y then -1 else Gd.car I 40 s (fun k => Gd.serves k 8))
  else if input = 6 then Gd.car I 40 s (fun k => Gd.serves k 6)
  else if input = 7 then Gd.car I 40 s (fun k => Gd.serves k 7)
  else -1

theorem wareSays_any (B gC gE gI cC cI k s : Nat) (X Y G : Int) (c : Nat → Int) (I : Nat → Nat → Int) (w : World) (hN : Gd.Near w B gC gE gI cC cI k s X Y G) (hC : Vec w.heap.size w (some ⟨gC, 0, none⟩) 384 (Byts c)) (hc : ∀ i, 0 ≤ c i ∧ c i ≤ 255) (hI : Its w gI 0 40 I) :
    Calls Try.prog 67 #[.pointer (some ⟨B, 0, none⟩), .pointer (some ⟨gE, k * 11, none⟩)] w (Says w (.int .i64 (if decide (Gr.at 384 c X Y = 5) = true ∧ 5 ≤ G then Gd.ware I 40 else -1))) := by
  have cA := fun m => at_any w.heap.size (some ⟨gC, 0, none⟩) 384 cC c X Y (w.drewN m) (hC.drew m) hc
  by_cases hA : Gr.at 384 c X Y = 5
  · rw [hA] at cA
    by_cases hG : G < 5
    · rw [if_neg (by omega)]
      exact ware_poor B gC gE gI cC cI k s X Y G w hN cA hG
    · rw [if_pos ⟨by simp [hA], by omega⟩]
      exact ware_shop B gC gE gI cC cI k s X Y G w hN cA hG I hI
  · rw [if_neg (by simp [hA])]
    exact ware_not B gC gE gI cC cI k s X Y G _ w hN cA hA

end Go.Proofs.Ythngbjmiblbohaa
