/-
  A law's worlds in their boxes, one behind the other.
  One item beside a bag of potions: what 'pick' and 'drop' do to them.
  The row of a seat's hero, in the document.
-/
import Derived.Test.YthngbjmiblbohaaGoodsPlay
import Derived.Test.YthngbjmiblbohaaGoodsBase
namespace Go.Proofs.Ythngbjmiblbohaa
open Go.RowKit

/-- A world in a box of the law's own. -/
structure Gd.Law (w x : World) (T gC gE gI cC cE cI : Nat) (s g c : Nat → Int) (E I : Nat → Nat → Int) : Prop where
  hold : Gd.Hold x T gC gE gI cC cE cI s g c E I
  lT : w.heap.size ≤ T
  lE : w.heap.size ≤ gE
  lI : w.heap.size ≤ gI
  cap : 32 ≤ cE
  grown : w.grownBy x none

theorem Gd.Law.on {w x y : World} {T gC gE gI cC cE cI : Nat} {s g c : Nat → Int} {E I : Nat → Nat → Int} (h : Gd.Law w x T gC gE gI cC cE cI s g c E I) (hg : x.grownBy y none) : Gd.Law w y T gC gE gI cC cE cI s g c E I :=
  { h with hold := h.hold.on hg, grown := grown_trans h.grown hg }

theorem Gd.Law.put {w x : World} {T gC gE gI cC cE cI : Nat} {s g c : Nat → Int} {E I : Nat → Nat → Int} (h : Gd.Law w x T gC gE gI cC cE cI s g c E I) (m : Nat) (a b d e : Int) : Gd.Law w ((((x.setCell ⟨gI, m * 4, none⟩ (.int .i64 a)).setCell ⟨gI, m * 4 + 1, none⟩ (.int .i64 b)).setCell ⟨gI, m * 4 + 2, none⟩ (.int .i64 d)).setCell ⟨gI, m * 4 + 3, none⟩ (.int .i64 e)) T gC gE gI cC cE cI s g c E (En.put I m (Gd.row a b d e)) :=
  { h with hold := h.hold.put m a b d e, grown := grown_own h.grown (grown_put4 (World.grownBy.refl x (some gI)) m _ _ _ _) (fun n e => by cases e; exact h.lI) }

theorem Gd.Law.same {w x : World} {T gC gE gI cC cE cI : Nat} {s g c : Nat → Int} {E I J : Nat → Nat → Int} (h : Gd.Law w x T gC gE gI cC cE cI s g c E I) (he : I = J) : Gd.Law w x T gC gE gI cC cE cI s g c E J := he ▸ h

/-- What a call has answered, laid into a box. -/
theorem Gd.law_new {w x x' : World} {gC gE gI cC cE cI : Nat} {s g c : Nat → Int} {E I : Nat → Nat → Int} (hgx : w.grownBy x none) (hcap : 32 ≤ cE) (l1 : x.heap.size ≤ gC) (l2 : x.heap.size ≤ gE) (l3 : x.heap.size ≤ gI) (n1 : gC ≠ gE) (n2 : gC ≠ gI) (n3 : gE ≠ gI) (hL : Gd.Lists x' gC gE gI c E I) (hg : x.grownBy x' none) :
    Gd.Law w (x'.alloc (.cells (Gd.world s gC gE gI cC cE cI g) 29)) x'.heap.size gC gE gI cC cE cI s g c E I := by
  have h1 := hL.cells.lt
  have h2 := hL.ents.lt
  have h3 := hL.items.lt
  have h4 := hgx.size
  have h5 := hg.size
  have _ := l1
  exact ⟨⟨(Arr.world (heap_alloc_new x' _)).lie, hL.on (World.grownBy_alloc _ _ _), by omega, by omega, by omega, n1, n2, n3⟩, by omega, by omega, by omega, hcap, grown_trans hgx (grown_alloc hg _)⟩

theorem Gd.Law.eleven {w x : World} {T gC gE gI cC cE cI : Nat} {s g c : Nat → Int} {E I : Nat → Nat → Int} (h : Gd.Law w x T gC gE gI cC cE cI s g c E I) : x.cell? ⟨T, 0, none⟩ = some (.int .i64 (s 0)) ∧ x.cell? ⟨T, 1, none⟩ = some (.int .i64 (s 1)) ∧ x.cell? ⟨T, 2, none⟩ = some (.int .i64 (s 2)) ∧ x.cell? ⟨T, 3, none⟩ = some (.int .i64 (s 3)) ∧ x.cell? ⟨T, 4, none⟩ = some (.slice (some ⟨gC, 0, none⟩) 384 cC) ∧ x.cell? ⟨T, 5, none⟩ = some (.slice (some ⟨gE, 0, none⟩) 32 cE) ∧ x.cell? ⟨T, 6, none⟩ = some (.slice (some ⟨gI, 0, none⟩) 40 cI) ∧ x.cell? ⟨T, 7, none⟩ = some (.int .i64 (g 0)) ∧ x.cell? ⟨T, 8, none⟩ = some (.int .i64 (g 1)) ∧ x.cell? ⟨T, 9, none⟩ = some (.int .i64 (g 2)) ∧ x.cell? ⟨T, 10, none⟩ = some (.int .i64 (g 3)) :=
  h.hold.box.eleven

/-- One number of an item. -/
theorem Gd.Law.at {w x : World} {T gC gE gI cC cE cI : Nat} {s g c : Nat → Int} {E I : Nat → Nat → Int} (h : Gd.Law w x T gC gE gI cC cE cI s g c E I) (q : Nat) (hq : q < 160) (v : Int) (hv : I (q / 4) (q % 4) = v) : x.cell? ⟨gI, q, none⟩ = some (.int .i64 v) := by
  rw [h.hold.lists.items.cell hq, ← hv]
  rfl

end Go.Proofs.Ythngbjmiblbohaa

namespace Go.Proofs.Ythngbjmiblbohaa
open Go.RowKit

/-- An item in row 0, and n potions in the bag of seat 0, from row 5 on. -/
def Gd.pack (a : Nat → Int) (n : Nat) : Nat → Nat → Int := fun j => if j = 0 then a else if 5 ≤ j ∧ j < 5 + n then Gd.row 1 2 0 ((j : Int) - 5) else fun _ => 0

theorem Gd.pack0 (a : Nat → Int) (n : Nat) : Gd.pack a n 0 = a := if_pos rfl

theorem Gd.pack_in (a : Nat → Int) {n j : Nat} (h5 : 5 ≤ j) (hn : j < 5 + n) : Gd.pack a n j = Gd.row 1 2 0 ((j : Int) - 5) := by
  unfold Gd.pack
  rw [if_neg (by omega), if_pos ⟨h5, hn⟩]

theorem Gd.pack_no (a : Nat → Int) {n j : Nat} (h0 : j ≠ 0) (hn : ¬ (5 ≤ j ∧ j < 5 + n)) : Gd.pack a n j = fun _ => 0 := by
  unfold Gd.pack
  rw [if_neg h0, if_neg hn]

theorem Gd.pack_first (a : Nat → Int) : En.put (fun _ _ => 0) 0 a = Gd.pack a 0 := by
  funext j
  by_cases e : j = 0
  · subst e
    rw [En.put_same, Gd.pack0]
  · rw [En.put_other e, Gd.pack_no a e (by omega)]

theorem Gd.pack_more (a : Nat → Int) (n : Nat) : En.put (Gd.pack a n) (5 + n) (Gd.row 1 2 0 (n : Int)) = Gd.pack a (n + 1) := by
  funext j
  by_cases e : j = 5 + n
  · subst e
    rw [En.put_same, Gd.pack_in a (by omega) (by omega), show (((5 + n : Nat) : Int) - 5) = (n : Int) by omega]
  · rw [En.put_other e]
    by_cases h0 : j = 0
    · subst h0
      rw [Gd.pack0, Gd.pack0]
    · by_cases h5 : 5 ≤ j ∧ j < 5 + n
      · rw [Gd.pack_in a h5.1 h5.2, Gd.pack_in a h5.1 (by omega)]
      · rw [Gd.pack_no a h0 h5, Gd.pack_no a h0 (by omega)]

theorem Gd.pack_put0 (a b : Nat → Int) (n : Nat) : En.put (Gd.pack a n) 0 b = Gd.pack b n := by
  funext j
  by_cases e : j = 0
  · subst e
    rw [En.put_same, Gd.pack0]
  · rw [En.put_other e]
    by_cases h5 : 5 ≤ j ∧ j < 5 + n
    · rw [Gd.pack_in a h5.1 h5.2, Gd.pack_in b h5.1 h5.2]
    · rw [Gd.pack_no a e h5, Gd.pack_no b e h5]

theorem Gd.pack_find0 {a : Nat → Int} {n : Nat} {p x q : Int} (h1 : a 1 = p) (h2 : a 2 = x) (h3 : a 3 = q) : Gd.find (Gd.pack a n) 40 p x q = ((0 : Nat) : Int) :=
  Gd.find_at (by omega) (by rw [Gd.pack0]; exact h1) (by rw [Gd.pack0]; exact h2) (by rw [Gd.pack0]; exact h3) (fun j hj => by omega)

theorem Gd.pack_bag {a : Nat → Int} {n b : Nat} (hb : b < n) (hn : n ≤ 4) (ha : ¬ (a 1 = 2 ∧ a 2 = 0 ∧ a 3 = (b : Int))) : Gd.find (Gd.pack a n) 40 2 0 (b : Int) = ((5 + b : Nat) : Int) := by
  have hin := Gd.pack_in a (n := n) (j := 5 + b) (by omega) (by omega)
  refine Gd.find_at (by omega) (by rw [hin]; rfl) (by rw [hin]; rfl) (by rw [hin]; show (((5 + b : Nat) : Int) - 5) = _; omega) (fun j hj hc => ?_)
  by_cases h0 : j = 0
  · subst h0
    rw [Gd.pack0] at hc
    exact ha hc
  · by_cases h5 : 5 ≤ j ∧ j < 5 + n
    · rw [Gd.pack_in a h5.1 h5.2] at hc
      have : (j : Int) - 5 = (b : Int) := hc.2.2
      omega
    · rw [Gd.pack_no a h0 h5] at hc
      have : (0 : Int) = 2 := hc.1
      omega

theorem Gd.pack_none {a : Nat → Int} {n : Nat} {p x q : Int} (hp : p ≠ 0) (ha : ¬ (a 1 = p ∧ a 2 = x ∧ a 3 = q)) (hb : ∀ b : Nat, b < n → ¬ (p = 2 ∧ x = 0 ∧ q = (b : Int))) : Gd.find (Gd.pack a n) 40 p x q = -1 :=
  Gd.find_no fun j _ hc => by
    by_cases h0 : j = 0
    · subst h0
      rw [Gd.pack0] at hc
      exact ha hc
    · by_cases h5 : 5 ≤ j ∧ j < 5 + n
      · rw [Gd.pack_in a h5.1 h5.2] at hc
        refine hb (j - 5) (by omega) ⟨hc.1.symm, hc.2.1.symm, ?_⟩
        have : (j : Int) - 5 = q := hc.2.2
        omega
      · rw [Gd.pack_no a h0 h5] at hc
        exact hp hc.1.symm

theorem Gd.pack_slot {x y kd : Int} {n : Nat} (hn : n < 4) : Gd.slot (Gd.pack (Gd.row kd 1 x y) n) 40 0 = (n : Int) := by
  refine Gd.slot_at hn ?_ (fun j hj => ?_)
  · rw [Gd.pack_none (by omega) (fun h => by have : (1 : Int) = 2 := h.1; omega) (fun b hb h => by omega)]
    omega
  · rw [Gd.pack_bag hj (by omega) (fun h => by have : (1 : Int) = 2 := h.1; omega)]
    omega

theorem Gd.pack_full {x y kd : Int} : Gd.slot (Gd.pack (Gd.row kd 1 x y) 4) 40 0 = -1 := by
  unfold Gd.slot
  refine En.first_none fun j hj => ?_
  rw [Gd.pack_bag hj (by omega) (fun h => by have : (1 : Int) = 2 := h.1; omega)]
  exact decide_eq_false (by omega)

theorem Gd.pick_pack {x y kd gd : Int} {n : Nat} {shop : Bool} (k3 : kd ≤ 3) (hn : n < 4) : Gd.act (Gd.pack (Gd.row kd 1 x y) n) 40 0 x y shop gd 5 = Gd.pack (Gd.row kd 2 0 (n : Int)) n := by
  have hf : Gd.find (Gd.pack (Gd.row kd 1 x y) n) 40 1 x y = ((0 : Nat) : Int) := Gd.pack_find0 rfl rfl rfl
  unfold Gd.act Gd.pick
  rw [if_pos rfl, hf, Gd.pack_slot hn, Int.toNat_natCast, Gd.pack0, show (Gd.row kd 1 x y) 0 = kd from rfl, if_neg (by omega), if_pos ⟨by omega, by omega⟩, Gd.pack_put0]

theorem Gd.pick_full {x y kd gd : Int} {shop : Bool} (k3 : kd ≤ 3) : Gd.act (Gd.pack (Gd.row kd 1 x y) 4) 40 0 x y shop gd 5 = Gd.pack (Gd.row kd 1 x y) 4 := by
  have hf : Gd.find (Gd.pack (Gd.row kd 1 x y) 4) 40 1 x y = ((0 : Nat) : Int) := Gd.pack_find0 rfl rfl rfl
  unfold Gd.act Gd.pick
  rw [if_pos rfl, hf, Gd.pack_full, Int.toNat_natCast, Gd.pack0, show (Gd.row kd 1 x y) 0 = kd from rfl, if_neg (by omega), if_neg (by omega)]

theorem Gd.pick_gold {x y kd gd : Int} {n : Nat} {shop : Bool} (k3 : kd ≤ 3) : Gd.goldOf (Gd.pack (Gd.row kd 1 x y) n) 0 x y shop gd 5 = gd := by
  have hf : Gd.find (Gd.pack (Gd.row kd 1 x y) n) 40 1 x y = ((0 : Nat) : Int) := Gd.pack_find0 rfl rfl rfl
  unfold Gd.goldOf
  rw [if_pos rfl, hf, Int.toNat_natCast, Gd.pack0, show (Gd.row kd 1 x y) 0 = kd from rfl, if_neg (by omega)]

theorem Gd.drop_first {x y kd gd : Int} {shop : Bool} (k1 : 1 ≤ kd) (k3 : kd ≤ 3) : Gd.act (Gd.pack (Gd.row kd 2 0 ((0 : Nat) : Int)) 0) 40 0 x y shop gd 8 = Gd.pack (Gd.row kd 1 x y) 0 := by
  have hh : Gd.has (Gd.pack (Gd.row kd 2 0 ((0 : Nat) : Int)) 0) 40 0 1 3 = ((0 : Nat) : Int) := Gd.has_at (b := 0) (by omega) (Gd.pack_find0 rfl rfl rfl) (by rw [Gd.pack0]; exact k1) (by rw [Gd.pack0]; exact k3) (fun j hj => by omega)
  have hf : Gd.find (Gd.pack (Gd.row kd 2 0 ((0 : Nat) : Int)) 0) 40 1 x y = -1 := Gd.pack_none (by omega) (fun h => by have : (2 : Int) = 1 := h.1; omega) (fun b hb => by omega)
  show Gd.drop _ 40 0 x y = _
  unfold Gd.drop
  rw [hh, hf, Int.toNat_natCast, Gd.pack0, if_pos ⟨by omega, by omega⟩, show (Gd.row kd 2 0 ((0 : Nat) : Int)) 0 = kd from rfl, Gd.pack_put0]

theorem Gd.drop_low {x y kd gd : Int} {n : Nat} {shop : Bool} (h0 : 0 < n) (hn : n < 4) : Gd.act (Gd.pack (Gd.row kd 2 0 (n : Int)) n) 40 0 x y shop gd 8 = En.put (Gd.pack (Gd.row kd 2 0 (n : Int)) n) 5 (Gd.row 1 1 x y) := by
  have hin := Gd.pack_in (Gd.row kd 2 0 (n : Int)) (n := n) (j := 5) (by omega) (by omega)
  have hb : Gd.find (Gd.pack (Gd.row kd 2 0 (n : Int)) n) 40 2 0 ((0 : Nat) : Int) = ((5 : Nat) : Int) := Gd.pack_bag h0 (by omega) (fun h => by have : (n : Int) = ((0 : Nat) : Int) := h.2.2; omega)
  have hh : Gd.has (Gd.pack (Gd.row kd 2 0 (n : Int)) n) 40 0 1 3 = ((5 : Nat) : Int) := Gd.has_at (b := 0) (by omega) hb (by rw [hin]; show (1 : Int) ≤ 1; omega) (by rw [hin]; show (1 : Int) ≤ 3; omega) (fun j hj => by omega)
  have hf : Gd.find (Gd.pack (Gd.row kd 2 0 (n : Int)) n) 40 1 x y = -1 := Gd.pack_none (by omega) (fun h => by have : (2 : Int) = 1 := h.1; omega) (fun b hb h => by omega)
  show Gd.drop _ 40 0 x y = _
  unfold Gd.drop
  rw [hh, hf, Int.toNat_natCast, hin, if_pos ⟨by omega, by omega⟩]
  rfl

theorem Gd.ok_pack {c : Nat → Int} {a : Nat → Int} (ha : Gd.Placed c a) (h1 : a 1 = 1) : ∀ n, n ≤ 4 → Gd.Ok c 40 (Gd.pack a n)
  | 0, _ => by
    rw [← Gd.pack_first]
    exact (Gd.ok_none c).put (.inr ⟨ha, fun k _ _ hsh => ha.where_ne hsh.1.symm⟩)
  | n + 1, hn => by
    rw [← Gd.pack_more]
    refine (Gd.ok_pack ha h1 n (by omega)).put (.inr ⟨Gd.Fit.placed ⟨by omega, by omega, .inr (.inl ⟨rfl, by omega, by omega, by omega, by omega⟩)⟩ (by omega), fun k _ hk hsh => ?_⟩)
    by_cases h0 : k = 0
    · subst h0
      rw [Gd.pack0] at hsh
      have : a 1 = 2 := hsh.1
      omega
    · by_cases h5 : 5 ≤ k ∧ k < 5 + n
      · rw [Gd.pack_in a h5.1 h5.2] at hsh
        have : (k : Int) - 5 = (n : Int) := hsh.2.2
        omega
      · rw [Gd.pack_no a h0 h5] at hsh
        have : (0 : Int) = 2 := hsh.1
        omega

end Go.Proofs.Ythngbjmiblbohaa

namespace Go.Proofs.Ythngbjmiblbohaa
open Go.RowKit

set_option maxHeartbeats 800000 in
theorem refHero_any (b n c : Nat) (E : Nat → Nat → Int) (seat : Int) (w : World) (hE : Ents w b n E) :
    Calls Try.prog 25 #[.slice (some ⟨b, 0, none⟩) n c, .int .i64 seat] w (Says w (.int .i64 (En.first (En.heroQ E seat) n))) := by
  have hn := hE.1
  have hE' := hide hE
  skip
  clear hE
  go_enter Try.func25, Try.ntmps25
  go_wp2_with fail
  go_loop [5] (fun i => ∃ k : Nat, k ≤ n ∧ i = .int .i64 (k : Int) ∧ ∀ j, j < k → En.heroQ E seat j = false) (fun i => 40 - (intOf i).toNat)
  case atStart => exact ⟨0, by omega, rfl, fun j hj => by omega⟩
  case round =>
    obtain ⟨k, hk, rfl, hno⟩ := hrel
    have hno' := hide hno
    clear hno
    by_cases hlt : k < n
    · obtain ⟨u0, _, u2, _⟩ := (unhide hE').row hlt
      have hlt' : (k : Int) < (n : Int) := by omega
      have HL := hide hlt
      skip
      clear hlt
      by_cases hf : E k 0 = 1
      · by_cases h3 : E k 2 = seat
        · have hq : Hid (En.heroQ E seat k = true) := by show En.heroQ E seat k = true; simp [En.heroQ, hf, h3]
          have he := hide (En.first_hit (unhide hno') (unhide hq) (unhide HL))
          go_wp2
          go_ret
          exact ⟨ret_int (unhide he).symm, World.grownBy.refl _ _⟩
        · have hq : Hid (En.heroQ E seat k = false) := by show En.heroQ E seat k = false; simp [En.heroQ, h3]
          have h3' : (E k 2 == seat) = false := by simp [h3]
          go_wp2
          go_round
          case rel => exact ⟨k + 1, by have := unhide HL; omega, by go_num, fun j hj => by
            by_cases e : j = k
            · rw [e]; exact unhide hq
            · exact unhide hno' j (by omega)⟩
          case measure => simp [intOf]; omega
      · have hq : Hid (En.heroQ E seat k = false) := by show En.heroQ E seat k = false; simp [En.heroQ, hf]
        have hf' : (E k 0 == 1) = false := by simp [hf]
        go_wp2
        go_round
        case rel => exact ⟨k + 1, by have := unhide HL; omega, by go_num, fun j hj => by
          by_cases e : j = k
          · rw [e]; exact unhide hq
          · exact unhide hno' j (by omega)⟩
        case measure => simp [intOf]; omega
    · have hge : ¬ (k : Int) < (n : Int) := by omega
      have he := hide (En.first_none (n := n) (fun j hj => unhide hno' j (by omega)))
      go_wp2
      go_ret
      exact ⟨ret_int (unhide he).symm, World.grownBy.refl _ _⟩

theorem refHero7_any (g c : Nat) (E : Nat → Nat → Int) (seat : Int) (w : World) (h : Own w g 32 E) :
    Calls Try.prog 25 #[.slice (some ⟨g, 0, none⟩) 32 c, .int .i64 seat] w (Says w (.int .i64 (Gd.hero E seat))) := refHero_any g 32 c E seat w h.ents

end Go.Proofs.Ythngbjmiblbohaa
