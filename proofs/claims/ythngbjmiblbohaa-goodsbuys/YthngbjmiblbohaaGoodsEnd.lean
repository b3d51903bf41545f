/-
  A law's worlds in their boxes, one behind the other.
  Wares in the shop and swords in the bag: what 'buy' does to them.
  The row of a seat's hero, in the document.
  A law's world, laid over by the one that a call has answered.
-/
import Derived.Test.YthngbjmiblbohaaGoodsPlay
import Derived.Test.YthngbjmiblbohaaGoodsBase
namespace Go.Proofs.Ythngbjmiblbohaa
open Go.RowKit

/-- A world in a box of the law's own. -/
structure Gd.Law (w x : World) (T gC gE gI cC cE cI : Nat) (s g c : Nat → Int) (E I : Nat → Nat → Int) : Prop where
  hold : Gd.Hold x T gC gE gI cC cE cI s g c E I
  lT : w.heap.size ≤ T
  lE : w.heap.size ≤ gE
  lI : w.heap.size ≤ gI
  cap : 32 ≤ cE
  grown : w.grownBy x none

theorem Gd.Law.on {w x y : World} {T gC gE gI cC cE cI : Nat} {s g c : Nat → Int} {E I : Nat → Nat → Int} (h : Gd.Law w x T gC gE gI cC cE cI s g c E I) (hg : x.grownBy y none) : Gd.Law w y T gC gE gI cC cE cI s g c E I :=
  { h with hold := h.hold.on hg, grown := grown_trans h.grown hg }

theorem Gd.Law.put {w x : World} {T gC gE gI cC cE cI : Nat} {s g c : Nat → Int} {E I : Nat → Nat → Int} (h : Gd.Law w x T gC gE gI cC cE cI s g c E I) (m : Nat) (a b d e : Int) : Gd.Law w ((((x.setCell ⟨gI, m * 4, none⟩ (.int .i64 a)).setCell ⟨gI, m * 4 + 1, none⟩ (.int .i64 b)).setCell ⟨gI, m * 4 + 2, none⟩ (.int .i64 d)).setCell ⟨gI, m * 4 + 3, none⟩ (.int .i64 e)) T gC gE gI cC cE cI s g c E (En.put I m (Gd.row a b d e)) :=
  { h with hold := h.hold.put m a b d e, grown := grown_own h.grown (grown_put4 (World.grownBy.refl x (some gI)) m _ _ _ _) (fun n e => by cases e; exact h.lI) }

theorem Gd.Law.same {w x : World} {T gC gE gI cC cE cI : Nat} {s g c : Nat → Int} {E I J : Nat → Nat → Int} (h : Gd.Law w x T gC gE gI cC cE cI s g c E I) (he : I = J) : Gd.Law w x T gC gE gI cC cE cI s g c E J := he ▸ h

/-- What a call has answered, laid into a box. -/
theorem Gd.law_new {w x x' : World} {gC gE gI cC cE cI : Nat} {s g c : Nat → Int} {E I : Nat → Nat → Int} (hgx : w.grownBy x none) (hcap : 32 ≤ cE) (l1 : x.heap.size ≤ gC) (l2 : x.heap.size ≤ gE) (l3 : x.heap.size ≤ gI) (n1 : gC ≠ gE) (n2 : gC ≠ gI) (n3 : gE ≠ gI) (hL : Gd.Lists x' gC gE gI c E I) (hg : x.grownBy x' none) :
    Gd.Law w (x'.alloc (.cells (Gd.world s gC gE gI cC cE cI g) 29)) x'.heap.size gC gE gI cC cE cI s g c E I := by
  have h1 := hL.cells.lt
  have h2 := hL.ents.lt
  have h3 := hL.items.lt
  have h4 := hgx.size
  have h5 := hg.size
  have _ := l1
  exact ⟨⟨(Arr.world (heap_alloc_new x' _)).lie, hL.on (World.grownBy_alloc _ _ _), by omega, by omega, by omega, n1, n2, n3⟩, by omega, by omega, by omega, hcap, grown_trans hgx (grown_alloc hg _)⟩

theorem Gd.Law.eleven {w x : World} {T gC gE gI cC cE cI : Nat} {s g c : Nat → Int} {E I : Nat → Nat → Int} (h : Gd.Law w x T gC gE gI cC cE cI s g c E I) : x.cell? ⟨T, 0, none⟩ = some (.int .i64 (s 0)) ∧ x.cell? ⟨T, 1, none⟩ = some (.int .i64 (s 1)) ∧ x.cell? ⟨T, 2, none⟩ = some (.int .i64 (s 2)) ∧ x.cell? ⟨T, 3, none⟩ = some (.int .i64 (s 3)) ∧ x.cell? ⟨T, 4, none⟩ = some (.slice (some ⟨gC, 0, none⟩) 384 cC) ∧ x.cell? ⟨T, 5, none⟩ = some (.slice (some ⟨gE, 0, none⟩) 32 cE) ∧ x.cell? ⟨T, 6, none⟩ = some (.slice (some ⟨gI, 0, none⟩) 40 cI) ∧ x.cell? ⟨T, 7, none⟩ = some (.int .i64 (g 0)) ∧ x.cell? ⟨T, 8, none⟩ = some (.int .i64 (g 1)) ∧ x.cell? ⟨T, 9, none⟩ = some (.int .i64 (g 2)) ∧ x.cell? ⟨T, 10, none⟩ = some (.int .i64 (g 3)) :=
  h.hold.box.eleven

/-- One number of an item. -/
theorem Gd.Law.at {w x : World} {T gC gE gI cC cE cI : Nat} {s g c : Nat → Int} {E I : Nat → Nat → Int} (h : Gd.Law w x T gC gE gI cC cE cI s g c E I) (q : Nat) (hq : q < 160) (v : Int) (hv : I (q / 4) (q % 4) = v) : x.cell? ⟨gI, q, none⟩ = some (.int .i64 v) := by
  rw [h.hold.lists.items.cell hq, ← hv]
  rfl

end Go.Proofs.Ythngbjmiblbohaa

namespace Go.Proofs.Ythngbjmiblbohaa
open Go.RowKit

/-- b wares that are bought, those of the rows below n that are not, and h swords in the bag of seat 0, from row 10 on. -/
def Gd.shelf (b n h : Nat) : Nat → Nat → Int := fun j => if j < b then Gd.row 1 2 0 ((h : Int) + j) else if j < n then Gd.row 1 4 (j : Int) 0 else if 10 ≤ j ∧ j < 10 + h then Gd.row 2 2 0 ((j : Int) - 10) else fun _ => 0

theorem Gd.shelf_bag {b n h j : Nat} (hj : j < b) : Gd.shelf b n h j = Gd.row 1 2 0 ((h : Int) + j) := if_pos hj

theorem Gd.shelf_ware {b n h j : Nat} (hb : ¬ j < b) (hj : j < n) : Gd.shelf b n h j = Gd.row 1 4 (j : Int) 0 := by
  unfold Gd.shelf
  rw [if_neg hb, if_pos hj]

theorem Gd.shelf_sword {b n h j : Nat} (hb : b ≤ 3) (hn : n ≤ 3) (h1 : 10 ≤ j) (h2 : j < 10 + h) : Gd.shelf b n h j = Gd.row 2 2 0 ((j : Int) - 10) := by
  unfold Gd.shelf
  rw [if_neg (by omega), if_neg (by omega), if_pos ⟨h1, h2⟩]

theorem Gd.shelf_no {b n h j : Nat} (hb : ¬ j < b) (hn : ¬ j < n) (hs : ¬ (10 ≤ j ∧ j < 10 + h)) : Gd.shelf b n h j = fun _ => 0 := by
  unfold Gd.shelf
  rw [if_neg hb, if_neg hn, if_neg hs]

theorem Gd.shelf_none : (fun _ _ => 0 : Nat → Nat → Int) = Gd.shelf 0 0 0 := by
  funext j
  rw [Gd.shelf_no (by omega) (by omega) (by omega)]

theorem Gd.shelf_more {n : Nat} (hn : n < 3) : En.put (Gd.shelf 0 n 0) n (Gd.row 1 4 (n : Int) 0) = Gd.shelf 0 (n + 1) 0 := by
  funext j
  by_cases e : j = n
  · subst e
    rw [En.put_same, Gd.shelf_ware (by omega) (by omega)]
  · rw [En.put_other e]
    by_cases h : j < n
    · rw [Gd.shelf_ware (by omega) h, Gd.shelf_ware (by omega) (by omega)]
    · rw [Gd.shelf_no (by omega) h (by omega), Gd.shelf_no (by omega) (by omega) (by omega)]

theorem Gd.shelf_arm {h : Nat} (hh : h < 4) : En.put (Gd.shelf 0 3 h) (10 + h) (Gd.row 2 2 0 (h : Int)) = Gd.shelf 0 3 (h + 1) := by
  funext j
  by_cases e : j = 10 + h
  · subst e
    rw [En.put_same, Gd.shelf_sword (by omega) (by omega) (by omega) (by omega), show (((10 + h : Nat) : Int) - 10) = (h : Int) by omega]
  · rw [En.put_other e]
    by_cases h3 : j < 3
    · rw [Gd.shelf_ware (by omega) h3, Gd.shelf_ware (by omega) h3]
    · by_cases hs : 10 ≤ j ∧ j < 10 + h
      · rw [Gd.shelf_sword (by omega) (by omega) hs.1 hs.2, Gd.shelf_sword (by omega) (by omega) hs.1 (by omega)]
      · rw [Gd.shelf_no (by omega) h3 hs, Gd.shelf_no (by omega) h3 (by omega)]

theorem Gd.shelf_buy {b h : Nat} (hb : b < 3) : En.put (Gd.shelf b 3 h) b (Gd.row 1 2 0 ((h : Int) + b)) = Gd.shelf (b + 1) 3 h := by
  funext j
  by_cases e : j = b
  · subst e
    rw [En.put_same, Gd.shelf_bag (by omega)]
  · rw [En.put_other e]
    by_cases h0 : j < b
    · rw [Gd.shelf_bag h0, Gd.shelf_bag (by omega)]
    · by_cases h3 : j < 3
      · rw [Gd.shelf_ware h0 h3, Gd.shelf_ware (by omega) h3]
      · by_cases hs : 10 ≤ j ∧ j < 10 + h
        · rw [Gd.shelf_sword (by omega) (by omega) hs.1 hs.2, Gd.shelf_sword (by omega) (by omega) hs.1 hs.2]
        · rw [Gd.shelf_no h0 h3 hs, Gd.shelf_no (by omega) h3 hs]

/-- What is in a place, row by row. -/
theorem Gd.shelf_in {b h j : Nat} {p x q : Int} (hb : b ≤ 3) (hp : p ≠ 0) (hc : Gd.shelf b 3 h j 1 = p ∧ Gd.shelf b 3 h j 2 = x ∧ Gd.shelf b 3 h j 3 = q) : (j < b ∧ p = 2 ∧ x = 0 ∧ q = (h : Int) + j) ∨ (b ≤ j ∧ j < 3 ∧ p = 4 ∧ x = (j : Int) ∧ q = 0) ∨ (10 ≤ j ∧ j < 10 + h ∧ p = 2 ∧ x = 0 ∧ q = (j : Int) - 10) := by
  by_cases h0 : j < b
  · rw [Gd.shelf_bag h0] at hc
    exact .inl ⟨h0, hc.1.symm, hc.2.1.symm, hc.2.2.symm⟩
  · by_cases h3 : j < 3
    · rw [Gd.shelf_ware h0 h3] at hc
      exact .inr (.inl ⟨by omega, h3, hc.1.symm, hc.2.1.symm, hc.2.2.symm⟩)
    · by_cases hs : 10 ≤ j ∧ j < 10 + h
      · rw [Gd.shelf_sword hb (by omega) hs.1 hs.2] at hc
        exact .inr (.inr ⟨hs.1, hs.2, hc.1.symm, hc.2.1.symm, hc.2.2.symm⟩)
      · rw [Gd.shelf_no h0 h3 hs] at hc
        exact absurd hc.1.symm hp

theorem Gd.shelf_slot {b h : Nat} (hb : b ≤ 3) (hh : h + b < 4) : Gd.slot (Gd.shelf b 3 h) 40 0 = ((h + b : Nat) : Int) := by
  refine Gd.slot_at hh ?_ (fun j hj => ?_)
  · rw [Gd.find_no fun j _ hc => by
      rcases Gd.shelf_in hb (by omega) hc with h1 | h1 | h1 <;> omega]
    omega
  · by_cases hlt : j < h
    · have hs := Gd.shelf_sword (b := b) (n := 3) (h := h) (j := 10 + j) hb (by omega) (by omega) (by omega)
      rcases Gd.find_cases (Gd.shelf b 3 h) 40 2 0 (j : Int) with ⟨_, hno⟩ | ⟨k, _, e, _⟩
      · refine absurd ⟨?_, ?_, ?_⟩ (hno (10 + j) (by omega))
        · rw [hs]; rfl
        · rw [hs]; rfl
        · rw [hs]
          show ((10 + j : Nat) : Int) - 10 = (j : Int)
          omega
      · omega
    · have hs := Gd.shelf_bag (n := 3) (h := h) (show j - h < b by omega)
      rcases Gd.find_cases (Gd.shelf b 3 h) 40 2 0 (j : Int) with ⟨_, hno⟩ | ⟨k, _, e, _⟩
      · refine absurd ⟨?_, ?_, ?_⟩ (hno (j - h) (by omega))
        · rw [hs]; rfl
        · rw [hs]; rfl
        · rw [hs]
          show (h : Int) + ((j - h : Nat) : Int) = (j : Int)
          omega
      · omega

theorem Gd.shelf_full {b h : Nat} (hb : b ≤ 3) (hh : h + b = 4) : Gd.slot (Gd.shelf b 3 h) 40 0 < 0 := by
  rcases En.first_cases (fun q => decide (Gd.find (Gd.shelf b 3 h) 40 2 0 (q : Int) < 0)) 4 with ⟨e, _⟩ | ⟨j, hj, e, hq, _⟩
  · unfold Gd.slot
    omega
  · exfalso
    have hneg : Gd.find (Gd.shelf b 3 h) 40 2 0 (j : Int) < 0 := by simpa using hq
    have hno := (Gd.find_neg hneg).2
    by_cases hlt : j < h
    · have hs := Gd.shelf_sword (b := b) (n := 3) (h := h) (j := 10 + j) hb (by omega) (by omega) (by omega)
      refine hno (10 + j) (by omega) ⟨?_, ?_, ?_⟩
      · rw [hs]; rfl
      · rw [hs]; rfl
      · rw [hs]
        show ((10 + j : Nat) : Int) - 10 = (j : Int)
        omega
    · have hs := Gd.shelf_bag (n := 3) (h := h) (show j - h < b by omega)
      refine hno (j - h) (by omega) ⟨?_, ?_, ?_⟩
      · rw [hs]; rfl
      · rw [hs]; rfl
      · rw [hs]
        show (h : Int) + ((j - h : Nat) : Int) = (j : Int)
        omega

theorem Gd.shelf_find {b h k : Nat} (hb : b ≤ 3) (hk : k < 3) : Gd.find (Gd.shelf b 3 h) 40 4 (k : Int) 0 = if b ≤ k then (k : Int) else -1 := by
  by_cases hbk : b ≤ k
  · rw [if_pos hbk]
    have hs := Gd.shelf_ware (b := b) (n := 3) (h := h) (j := k) (by omega) hk
    refine Gd.find_at (by omega) (by rw [hs]; rfl) (by rw [hs]; rfl) (by rw [hs]; rfl) (fun j hj hc => ?_)
    rcases Gd.shelf_in hb (by omega) hc with h1 | h1 | h1 <;> omega
  · rw [if_neg hbk]
    refine Gd.find_no fun j _ hc => ?_
    rcases Gd.shelf_in hb (by omega) hc with h1 | h1 | h1 <;> omega

theorem Gd.shelf_ware_at {b h : Nat} (hb : b < 3) : Gd.ware (Gd.shelf b 3 h) 40 = (b : Int) := by
  have hf : En.first (fun k => decide (0 ≤ Gd.find (Gd.shelf b 3 h) 40 4 (k : Int) 0)) 3 = (b : Int) := by
    refine En.first_hit (fun j hj => ?_) ?_ hb
    · show decide (0 ≤ Gd.find (Gd.shelf b 3 h) 40 4 (j : Int) 0) = false
      rw [Gd.shelf_find (by omega) (by omega), if_neg (by omega)]
      rfl
    · show decide (0 ≤ Gd.find (Gd.shelf b 3 h) 40 4 (b : Int) 0) = true
      rw [Gd.shelf_find (by omega) hb, if_pos (by omega)]
      exact decide_eq_true (by omega)
  unfold Gd.ware
  rw [hf, if_pos (by omega), Gd.shelf_find (by omega) hb, if_pos (by omega)]

theorem Gd.shelf_out {h : Nat} : Gd.ware (Gd.shelf 3 3 h) 40 < 0 := by
  have hf : En.first (fun k => decide (0 ≤ Gd.find (Gd.shelf 3 3 h) 40 4 (k : Int) 0)) 3 = -1 := by
    refine En.first_none fun j hj => ?_
    show decide (0 ≤ Gd.find (Gd.shelf 3 3 h) 40 4 (j : Int) 0) = false
    rw [Gd.shelf_find (by omega) (by omega), if_neg (by omega)]
    rfl
  unfold Gd.ware
  rw [hf, if_neg (by omega)]
  omega

/-- One that is bought. -/
theorem Gd.buy_yes {b h : Nat} {x y gd : Int} (hb : b < 3) (hh : h + b < 4) (hg : 5 ≤ gd) : Gd.act (Gd.shelf b 3 h) 40 0 x y true gd 10 = Gd.shelf (b + 1) 3 h ∧ Gd.goldOf (Gd.shelf b 3 h) 0 x y true gd 10 = gd - 5 := by
  have hbuy : Gd.buys (Gd.shelf b 3 h) 40 0 true gd = true := by
    unfold Gd.buys
    rw [Gd.shelf_slot (by omega) hh, Gd.shelf_ware_at hb, decide_eq_true hg, decide_eq_true (by omega), decide_eq_true (by omega)]
    rfl
  constructor
  · show Gd.buy _ 40 0 true gd = _
    unfold Gd.buy
    rw [if_pos hbuy, Gd.shelf_ware_at hb, Gd.shelf_slot (by omega) hh, Int.toNat_natCast, Gd.shelf_ware (by omega) hb, show (Gd.row 1 4 (b : Int) 0) 0 = 1 from rfl, show (((h + b : Nat)) : Int) = (h : Int) + b by omega, Gd.shelf_buy hb]
  · show (if Gd.buys _ 40 0 true gd = true then _ else _) = _
    rw [if_pos hbuy]

/-- Nothing that can be bought. -/
theorem Gd.buy_no {b h : Nat} {x y gd : Int} (hb : b ≤ 3) (hh : h + b ≤ 4) (hno : ¬ (b < 3 ∧ h + b < 4 ∧ 5 ≤ gd)) : Gd.act (Gd.shelf b 3 h) 40 0 x y true gd 10 = Gd.shelf b 3 h ∧ Gd.goldOf (Gd.shelf b 3 h) 0 x y true gd 10 = gd := by
  have hbuy : ¬ Gd.buys (Gd.shelf b 3 h) 40 0 true gd = true := by
    unfold Gd.buys
    simp only [Bool.and_eq_true, decide_eq_true_eq, not_and, Bool.true_and]
    intro h5 hs
    by_cases h3 : b < 3
    · by_cases h4 : h + b < 4
      · exact absurd ⟨h3, h4, h5⟩ hno
      · have := Gd.shelf_full hb (show h + b = 4 by omega)
        omega
    · obtain rfl : b = 3 := by omega
      have := Gd.shelf_out (h := h)
      omega
  constructor
  · show Gd.buy _ 40 0 true gd = _
    unfold Gd.buy
    rw [if_neg hbuy]
  · show (if Gd.buys _ 40 0 true gd = true then _ else _) = _
    rw [if_neg hbuy]

end Go.Proofs.Ythngbjmiblbohaa

namespace Go.Proofs.Ythngbjmiblbohaa
open Go.RowKit

set_option maxHeartbeats 800000 in
theorem refHero_any (b n c : Nat) (E : Nat → Nat → Int) (seat : Int) (w : World) (hE : Ents w b n E) :
    Calls Try.prog 25 #[.slice (some ⟨b, 0, none⟩) n c, .int .i64 seat] w (Says w (.int .i64 (En.first (En.heroQ E seat) n))) := by
  have hn := hE.1
  have hE' := hide hE
  skip
  clear hE
  go_enter Try.func25, Try.ntmps25
  go_wp2_with fail
  go_loop [5] (fun i => ∃ k : Nat, k ≤ n ∧ i = .int .i64 (k : Int) ∧ ∀ j, j < k → En.heroQ E seat j = false) (fun i => 40 - (intOf i).toNat)
  case atStart => exact ⟨0, by omega, rfl, fun j hj => by omega⟩
  case round =>
    obtain ⟨k, hk, rfl, hno⟩ := hrel
    have hno' := hide hno
    clear hno
    by_cases hlt : k < n
    · obtain ⟨u0, _, u2, _⟩ := (unhide hE').row hlt
      have hlt' : (k : Int) < (n : Int) := by omega
      have HL := hide hlt
      skip
      clear hlt
      by_cases hf : E k 0 = 1
      · by_cases h3 : E k 2 = seat
        · have hq : Hid (En.heroQ E seat k = true) := by show En.heroQ E seat k = true; simp [En.heroQ, hf, h3]
          have he := hide (En.first_hit (unhide hno') (unhide hq) (unhide HL))
          go_wp2
          go_ret
          exact ⟨ret_int (unhide he).symm, World.grownBy.refl _ _⟩
        · have hq : Hid (En.heroQ E seat k = false) := by show En.heroQ E seat k = false; simp [En.heroQ, h3]
          have h3' : (E k 2 == seat) = false := by simp [h3]
          go_wp2
          go_round
          case rel => exact ⟨k + 1, by have := unhide HL; omega, by go_num, fun j hj => by
            by_cases e : j = k
            · rw [e]; exact unhide hq
            · exact unhide hno' j (by omega)⟩
          case measure => simp [intOf]; omega
      · have hq : Hid (En.heroQ E seat k = false) := by show En.heroQ E seat k = false; simp [En.heroQ, hf]
        have hf' : (E k 0 == 1) = false := by simp [hf]
        go_wp2
        go_round
        case rel => exact ⟨k + 1, by have := unhide HL; omega, by go_num, fun j hj => by
          by_cases e : j = k
          · rw [e]; exact unhide hq
          · exact unhide hno' j (by omega)⟩
        case measure => simp [intOf]; omega
    · have hge : ¬ (k : Int) < (n : Int) := by omega
      have he := hide (En.first_none (n := n) (fun j hj => unhide hno' j (by omega)))
      go_wp2
      go_ret
      exact ⟨ret_int (unhide he).symm, World.grownBy.refl _ _⟩

theorem refHero7_any (g c : Nat) (E : Nat → Nat → Int) (seat : Int) (w : World) (h : Own w g 32 E) :
    Calls Try.prog 25 #[.slice (some ⟨g, 0, none⟩) 32 c, .int .i64 seat] w (Says w (.int .i64 (Gd.hero E seat))) := refHero_any g 32 c E seat w h.ents

end Go.Proofs.Ythngbjmiblbohaa

namespace Go.Proofs.Ythngbjmiblbohaa
open Go.RowKit

/-- What a call has answered, laid over a box that was there. -/
theorem Gd.Law.over {w x x' : World} {T gC gE gI cC cE cI jC jE jI dC dE dI : Nat} {s g c s' g' c' : Nat → Int} {E I F J : Nat → Nat → Int} (h : Gd.Law w x T gC gE gI cC cE cI s g c E I) (hcap : 32 ≤ dE) (l1 : x.heap.size ≤ jC) (l2 : x.heap.size ≤ jE) (l3 : x.heap.size ≤ jI) (n1 : jC ≠ jE) (n2 : jC ≠ jI) (n3 : jE ≠ jI) (hL : Gd.Lists x' jC jE jI c' F J) (hg : x.grownBy x' none) :
    Gd.Law w (x'.setCells T 0 (Gd.world s' jC jE jI dC dE dI g').toList) T jC jE jI dC dE dI s' g' c' F J := by
  have h1 := h.hold.box.lt
  have h2 := h.grown.size
  have r := grown_sets (g := T) (Gd.world s' jC jE jI dC dE dI g').toList 0 x' (World.grownBy.refl _ _)
  exact ⟨⟨(h.hold.box.on hg).whole s' g' jC jE jI dC dE dI, ⟨hL.cells.grown r (by simp; omega), hL.ents.grown r (by simp; omega), hL.items.grown r (by simp; omega)⟩, by omega, by omega, by omega, n1, n2, n3⟩, h.lT, by omega, by omega, hcap, own_sets h.lT _ 0 x' (grown_trans h.grown hg)⟩

/-- A piece of gold in row k, where nothing else is: it is counted, and gone. -/
theorem Gd.gold_pick {x y gd : Int} {k : Nat} {shop : Bool} (hk : k < 40) : Gd.act (En.put (fun _ _ => 0) k (Gd.row 4 1 x y)) 40 2 x y shop gd 5 = (fun _ _ => 0) ∧ Gd.goldOf (En.put (fun _ _ => 0) k (Gd.row 4 1 x y)) 2 x y shop gd 5 = min (gd + 5) 999 := by
  have hf : Gd.find (En.put (fun _ _ => 0) k (Gd.row 4 1 x y)) 40 1 x y = (k : Int) := Gd.find_at hk (by rw [En.put_same]; rfl) (by rw [En.put_same]; rfl) (by rw [En.put_same]; rfl) (fun j hj hc => by
    rw [En.put_other (by omega)] at hc
    have : (0 : Int) = 1 := hc.1
    omega)
  have h0 : En.put (fun _ _ => 0) k (Gd.row 4 1 x y) k 0 = 4 := by
    rw [En.put_same]
    rfl
  constructor
  · unfold Gd.act Gd.pick
    rw [if_pos rfl, hf, Int.toNat_natCast, h0, if_pos ⟨by omega, rfl⟩]
    funext j
    by_cases e : j = k
    · subst e
      rw [En.put_same]
      rfl
    · rw [En.put_other e, En.put_other e]
  · unfold Gd.goldOf
    rw [if_pos rfl, hf, Int.toNat_natCast, h0, if_pos ⟨by omega, rfl⟩]

theorem Gd.ok_gold {c : Nat → Int} {kd : Int} {kc k : Nat} (h1 : 1 ≤ kd) (h4 : kd ≤ 4) (hkc : kc < 384) (hw : Gr.walkB (c kc) = true) : Gd.Ok c 40 (En.put (fun _ _ => 0) k (Gd.row kd 1 ((kc : Int) % 24) ((kc : Int) / 24))) := by
  have hp := (Gd.fit_cell (c := c) h1 h4 hkc hw).placed (fun _ => rfl)
  exact (Gd.ok_none c).put (.inr ⟨hp, fun j _ _ hsh => hp.where_ne hsh.1.symm⟩)

theorem Gd.slot_none (seat : Int) : Gd.slot (fun _ _ => 0) 40 seat = ((0 : Nat) : Int) :=
  Gd.slot_at (by omega) (by
    rw [Gd.find_no fun j _ hc => by
      have : (0 : Int) = 2 := hc.1
      omega]
    omega) (fun j hj => by omega)

theorem Gd.fine_give {c g : Nat → Int} {E I J : Nat → Nat → Int} {t : Nat} {v : Int} (h : Gd.Fine c g E I) (h0 : 0 ≤ v) (h9 : v ≤ 999) (hJ : Gd.Ok c 40 J) : Gd.Fine c (Gd.give g t v) E J :=
  { h with
    gold := fun k hk => by
      unfold Gd.give
      by_cases e : k = t
      · rw [if_pos e]; exact ⟨h0, h9⟩
      · rw [if_neg e]; exact h.gold k hk
    ok := hJ }

end Go.Proofs.Ythngbjmiblbohaa
