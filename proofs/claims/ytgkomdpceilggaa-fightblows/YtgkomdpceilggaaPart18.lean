/-
  What a hero does with items, in goods: all inputs.
  What a seat wants with items, in goods: Do.
  Whether an item may be where it is, and whether all may, in goods.
  Whether all items may be where they are, in goods: Check.
  Two worlds that hold the same are the same.
-/
import Derived.Test.YtgkomdpceilggaaPart16
import Derived.Test.YtgkomdpceilggaaPart17
import Derived.Test.YtgkomdpceilggaaPart09
import Derived.Test.YtgkomdpceilggaaPart14
import Derived.Laws.BytesArg
import Derived.ChangeKeysEq
namespace Go.Proofs.Ytgkomdpceilggaa
open Go.RowKit

/-- A world's numbers are within their bounds. -/
structure Gd.Fine (c g : Nat → Int) (E I : Nat → Nat → Int) : Prop where
  cells : ∀ i, 0 ≤ c i ∧ c i ≤ 255
  gold : ∀ t, t < 4 → 0 ≤ g t ∧ g t ≤ 999
  hp : ∀ k, k < 32 → 0 ≤ E k 5 ∧ E k 5 ≤ 1000
  ok : Gd.Ok c 40 I

/-- The gold of the seat behind an input. -/
def Gd.goldOf (I : Nat → Nat → Int) (s X Y : Int) (shop : Bool) (G input : Int) : Int :=
  if input = 5 then (if 0 ≤ Gd.find I 40 1 X Y ∧ I (Gd.find I 40 1 X Y).toNat 0 = 4 then min (G + 5) 999 else G)
  else if input = 10 then (if Gd.buys I 40 s shop G = true then G - 5 else G) else G

/-- The entities behind an input. -/
def Gd.entsOf (E I : Nat → Nat → Int) (k : Nat) (s input : Int) : Nat → Nat → Int := if input = 6 ∧ 0 ≤ Gd.has I 40 s 1 1 then Gd.heal E k else E

theorem Gd.give_same (g : Nat → Int) (t : Nat) : Gd.give g t (g t) = g := by
  funext i
  unfold Gd.give
  split
  · rename_i h; rw [h]
  · rfl

theorem Gd.serves6 (I : Nat → Nat → Int) (s : Int) : Gd.car I 40 s (fun k => Gd.serves k 6) = Gd.has I 40 s 1 1 := by
  rw [Gd.has_car]
  refine Gd.car_congr fun k _ _ => ?_
  show (if (6 : Int) = 6 then decide (I k 0 = 1) else _) = _
  rw [if_pos rfl]
  by_cases h : I k 0 = 1
  · simp [h]
  · rw [decide_eq_false h]
    by_cases h1 : 1 ≤ I k 0
    · rw [decide_eq_false (show ¬ I k 0 ≤ 1 by omega), Bool.and_false]
    · rw [decide_eq_false h1, Bool.false_and]

theorem Gd.serves7 (I : Nat → Nat → Int) (s : Int) : Gd.car I 40 s (fun k => Gd.serves k 7) = Gd.has I 40 s 2 3 := by
  rw [Gd.has_car]
  refine Gd.car_congr fun k _ _ => ?_
  show (if (7 : Int) = 6 then _ else if (7 : Int) = 7 then decide (I k 0 = 2) || decide (I k 0 = 3) else true) = _
  rw [if_neg (by decide), if_pos rfl]
  by_cases h : I k 0 = 2 ∨ I k 0 = 3
  · rcases h with h | h <;> simp [h]
  · rw [decide_eq_false (show ¬ I k 0 = 2 by omega), decide_eq_false (show ¬ I k 0 = 3 by omega)]
    by_cases h1 : 2 ≤ I k 0
    · rw [decide_eq_false (show ¬ I k 0 ≤ 3 by omega), Bool.and_false]; rfl
    · rw [decide_eq_false h1, Bool.false_and]; rfl

theorem Gd.serves8 {c : Nat → Int} {I : Nat → Nat → Int} (h : Gd.Ok c 40 I) (s : Int) : Gd.car I 40 s (fun k => Gd.serves k 8) = Gd.has I 40 s 1 3 := by
  rw [Gd.has_car]
  refine Gd.car_congr fun k hk hw => ?_
  show (if (8 : Int) = 6 then _ else if (8 : Int) = 7 then _ else true) = _
  rw [if_neg (by decide), if_neg (by decide)]
  obtain ⟨h1, h2, h3⟩ := h.of hk (by omega)
  have : I k 0 ≤ 3 := by rcases h3 with h3 | h3 | h3 | h3 <;> omega
  rw [decide_eq_true h1, decide_eq_true this]
  rfl

theorem Gd.Hold.eq {x : World} {B gC gE gI cC cE cI : Nat} {s g c : Nat → Int} {E I : Nat → Nat → Int} {g' : Nat → Int} {E' I' : Nat → Nat → Int} (h : Gd.Hold x B gC gE gI cC cE cI s g c E I) (h1 : g = g') (h2 : E = E') (h3 : I = I') : Gd.Hold x B gC gE gI cC cE cI s g' c E' I' := by
  subst h1; subst h2; subst h3; exact h

theorem act_all (base : Nat → Prop) (B gC gE gI cC cE cI k t : Nat) (s g c : Nat → Int) (E I : Nat → Nat → Int) (input : Int) (x : World) (H : Gd.Hold x B gC gE gI cC cE cI s g c E I) (hk : k < 32) (ht : t < 4) (he : E k 2 = (t : Int)) (F : Gd.Fine c g E I) (hbB : ¬ base B) (hbE : ¬ base gE) (hbI : ¬ base gI) :
    Calls Try.prog 42 #[.pointer (some ⟨B, 0, none⟩), .pointer (some ⟨gE, k * 11, none⟩), .int .i64 input] x (Gd.Acted base x B gC gE gI cC cE cI s (Gd.give g t (Gd.goldOf I (t : Int) (E k 3) (E k 4) (decide (Gr.at 384 c (E k 3) (E k 4) = 5)) (g t) input)) c (Gd.entsOf E I k (t : Int) input) (Gd.act I 40 (t : Int) (E k 3) (E k 4) (decide (Gr.at 384 c (E k 3) (E k 4) = 5)) (g t) input)) := by
  obtain ⟨X, hX⟩ : ∃ X, E k 3 = X := ⟨_, rfl⟩
  obtain ⟨Y, hY⟩ : ∃ Y, E k 4 = Y := ⟨_, rfl⟩
  obtain ⟨sh, hsh⟩ : ∃ sh, decide (Gr.at 384 c (E k 3) (E k 4) = 5) = sh := ⟨_, rfl⟩
  have none := act_none base B gC gE gI cC cE cI k t s g c E I input x H hk ht he F.cells
  have g01 := F.gold t ht
  have gs := Gd.give_same g t
  by_cases h5 : input = 5
  · subst h5
    have e6 : Gd.entsOf E I k (t : Int) 5 = E := if_neg (by rintro ⟨h, _⟩; omega)
    have ew : ∀ sh, Gd.want I (t : Int) (E k 3) (E k 4) sh (g t) 5 = Gd.find I 40 1 (E k 3) (E k 4) := fun _ => if_pos rfl
    have ea : ∀ sh, Gd.act I 40 (t : Int) (E k 3) (E k 4) sh (g t) 5 = Gd.pick I 40 (t : Int) (E k 3) (E k 4) := fun _ => if_pos rfl
    have eg : ∀ sh, Gd.goldOf I (t : Int) (E k 3) (E k 4) sh (g t) 5 = (if 0 ≤ Gd.find I 40 1 (E k 3) (E k 4) ∧ I (Gd.find I 40 1 (E k 3) (E k 4)).toNat 0 = 4 then min (g t + 5) 999 else g t) := fun _ => if_pos rfl
    rw [ea, eg, e6]
    unfold Gd.pick
    by_cases hf : 0 ≤ Gd.find I 40 1 (E k 3) (E k 4)
    · obtain ⟨m, hm, em, m1, _⟩ := Gd.find_pos hf
      rw [em, Int.toNat_natCast]
      by_cases h4 : I m 0 = 4
      · rw [if_pos ⟨by omega, h4⟩, if_pos ⟨by omega, h4⟩]
        exact act_gold base B gC gE gI cC cE cI k t m s g c E I x H hk ht he F.cells hbI hm hbB h4 g01.1 g01.2 (by rw [ew, em])
      · rw [if_neg (fun h => h4 h.2), if_neg (fun h => h4 h.2), gs]
        by_cases hs : 0 ≤ Gd.slot I 40 (t : Int)
        · obtain ⟨f, hf'⟩ : ∃ f : Nat, Gd.slot I 40 (t : Int) = (f : Int) := ⟨(Gd.slot I 40 (t : Int)).toNat, by omega⟩
          rw [if_pos ⟨by omega, hs⟩, hf']
          have r := act_take base B gC gE gI cC cE cI k t m s g c E I x H hk ht he F.cells hbI hm hbB g01.1 g01.2 h4 m1 f hf' (by rw [ew, em])
          rwa [gs] at r
        · rw [if_neg (fun h => hs h.2)]
          exact act_take_full base B gC gE gI cC cE cI k t m s g c E I x H hk ht he F.cells hm h4 (by omega) (by rw [ew, em])
    · rw [if_neg (fun h => hf h.1), if_neg (fun h => hf h.1), if_neg (fun h => hf h.1), gs]
      exact none (by rw [ew]; omega)
  · by_cases h10 : input = 10
    · subst h10
      have e6 : Gd.entsOf E I k (t : Int) 10 = E := if_neg (by rintro ⟨h, _⟩; omega)
      have ew : ∀ sh : Bool, Gd.want I (t : Int) (E k 3) (E k 4) sh (g t) 10 = (if sh = true ∧ 5 ≤ g t then Gd.ware I 40 else -1) := fun _ => by
        unfold Gd.want
        rw [if_neg (by decide), if_pos rfl]
      have ea : ∀ sh, Gd.act I 40 (t : Int) (E k 3) (E k 4) sh (g t) 10 = Gd.buy I 40 (t : Int) sh (g t) := fun _ => by
        unfold Gd.act
        rw [if_neg (by decide), if_neg (by decide), if_neg (by decide), if_neg (by decide), if_pos rfl]
      have eg : ∀ sh, Gd.goldOf I (t : Int) (E k 3) (E k 4) sh (g t) 10 = (if Gd.buys I 40 (t : Int) sh (g t) = true then g t - 5 else g t) := fun _ => by
        unfold Gd.goldOf
        rw [if_neg (by decide), if_pos rfl]
      rw [ea, eg, e6, hsh]
      rw [hsh] at none
      unfold Gd.buy Gd.buys
      by_cases hsg : sh = true ∧ 5 ≤ g t
      · by_cases hwr : 0 ≤ Gd.ware I 40
        · obtain ⟨m, hm, em, m1⟩ := Gd.ware_pos hwr
          have ew' : Gd.want I (t : Int) (E k 3) (E k 4) (decide (Gr.at 384 c (E k 3) (E k 4) = 5)) (g t) 10 = (m : Int) := by rw [hsh, ew, if_pos hsg, em]
          by_cases hs : 0 ≤ Gd.slot I 40 (t : Int)
          · obtain ⟨f, hf'⟩ : ∃ f : Nat, Gd.slot I 40 (t : Int) = (f : Int) := ⟨(Gd.slot I 40 (t : Int)).toNat, by omega⟩
            have hbuy : (sh && (decide (5 ≤ g t) && (decide (0 ≤ Gd.slot I 40 (t : Int)) && decide (0 ≤ Gd.ware I 40)))) = true := by simp [hsg.1, hsg.2, hs, hwr]
            rw [if_pos hbuy, if_pos hbuy, em, Int.toNat_natCast, hf']
            exact act_buy base B gC gE gI cC cE cI k t m s g c E I x H hk ht he F.cells hbI hm hbB g01.1 g01.2 m1 f hf' ew'
          · have hbuy : ¬ (sh && (decide (5 ≤ g t) && (decide (0 ≤ Gd.slot I 40 (t : Int)) && decide (0 ≤ Gd.ware I 40)))) = true := by simp [hs]
            rw [if_neg hbuy, if_neg hbuy, gs]
            exact act_buy_full base B gC gE gI cC cE cI k t m s g c E I x H hk ht he F.cells hm (by omega) ew'
        · have hbuy : ¬ (sh && (decide (5 ≤ g t) && (decide (0 ≤ Gd.slot I 40 (t : Int)) && decide (0 ≤ Gd.ware I 40)))) = true := by simp [hwr]
          rw [if_neg hbuy, if_neg hbuy, gs]
          exact none (by rw [ew, if_pos hsg]; omega)
      · have hbuy : ¬ (sh && (decide (5 ≤ g t) && (decide (0 ≤ Gd.slot I 40 (t : Int)) && decide (0 ≤ Gd.ware I 40)))) = true := by
          intro h
          simp only [Bool.and_eq_true, decide_eq_true_eq] at h
          exact hsg ⟨h.1, h.2.1⟩
        rw [if_neg hbuy, if_neg hbuy, gs]
        exact none (by rw [ew, if_neg hsg]; omega)
    · have eg : ∀ sh, Gd.goldOf I (t : Int) (E k 3) (E k 4) sh (g t) input = g t := fun _ => by
        unfold Gd.goldOf
        rw [if_neg h5, if_neg h10]
      rw [eg, gs]
      by_cases h8 : input = 8
      · subst h8
        have e6 : Gd.entsOf E I k (t : Int) 8 = E := if_neg (by rintro ⟨h, _⟩; omega)
        have ew : ∀ sh : Bool, Gd.want I (t : Int) (E k 3) (E k 4) sh (g t) 8 = (if 0 ≤ Gd.find I 40 1 (E k 3) (E k 4) then -1 else Gd.has I 40 (t : Int) 1 3) := fun _ => by
          unfold Gd.want
          rw [if_neg (by decide), if_neg (by decide), if_pos rfl, Gd.serves8 F.ok]
        have ea : ∀ sh, Gd.act I 40 (t : Int) (E k 3) (E k 4) sh (g t) 8 = Gd.drop I 40 (t : Int) (E k 3) (E k 4) := fun _ => by
          unfold Gd.act
          rw [if_neg (by decide), if_neg (by decide), if_neg (by decide), if_pos rfl]
        rw [ea, e6]
        unfold Gd.drop
        by_cases hf : 0 ≤ Gd.find I 40 1 (E k 3) (E k 4)
        · rw [if_neg (fun h => by omega)]
          exact none (by rw [ew, if_pos hf]; omega)
        · by_cases hh : 0 ≤ Gd.has I 40 (t : Int) 1 3
          · obtain ⟨m, hm, em, _⟩ := Gd.has_pos hh
            rw [if_pos ⟨hh, by omega⟩, em, Int.toNat_natCast]
            exact act_drop base B gC gE gI cC cE cI k t m s g c E I x H hk ht he F.cells hbI hm (by rw [ew, if_neg hf, em])
          · rw [if_neg (fun h => hh h.1)]
            exact none (by rw [ew, if_neg hf]; omega)
      · by_cases h6 : input = 6
        · subst h6
          have ew : ∀ sh : Bool, Gd.want I (t : Int) (E k 3) (E k 4) sh (g t) 6 = Gd.has I 40 (t : Int) 1 1 := fun _ => by
            unfold Gd.want
            rw [if_neg (by decide), if_neg (by decide), if_neg (by decide), if_pos rfl, Gd.serves6]
          have ea : ∀ sh, Gd.act I 40 (t : Int) (E k 3) (E k 4) sh (g t) 6 = Gd.use I 40 (t : Int) := fun _ => by
            unfold Gd.act
            rw [if_neg (by decide), if_pos rfl]
          rw [ea]
          unfold Gd.use Gd.entsOf
          by_cases hh : 0 ≤ Gd.has I 40 (t : Int) 1 1
          · obtain ⟨m, hm, em, _⟩ := Gd.has_pos hh
            rw [if_pos hh, if_pos ⟨rfl, hh⟩, em, Int.toNat_natCast]
            exact act_use base B gC gE gI cC cE cI k t m s g c E I x H hk ht he F.cells hbE hbI (F.hp k hk).1 (F.hp k hk).2 hm (by rw [ew, em])
          · rw [if_neg hh, if_neg (fun h => hh h.2)]
            exact none (by rw [ew]; omega)
        · have e6 : Gd.entsOf E I k (t : Int) input = E := if_neg (fun h => h6 h.1)
          rw [e6]
          by_cases h7 : input = 7
          · subst h7
            have ew : ∀ sh : Bool, Gd.want I (t : Int) (E k 3) (E k 4) sh (g t) 7 = Gd.has I 40 (t : Int) 2 3 := fun _ => by
              unfold Gd.want
              rw [if_neg (by decide), if_neg (by decide), if_neg (by decide), if_neg (by decide), if_pos rfl, Gd.serves7]
            have ea : ∀ sh, Gd.act I 40 (t : Int) (E k 3) (E k 4) sh (g t) 7 = Gd.wear I 40 (t : Int) := fun _ => by
              unfold Gd.act
              rw [if_neg (by decide), if_neg (by decide), if_pos rfl]
            rw [ea]
            unfold Gd.wear
            by_cases hh : 0 ≤ Gd.has I 40 (t : Int) 2 3
            · obtain ⟨m, hm, em, m1, m2, _, _, l0, l1⟩ := Gd.has_pos hh
              rw [if_pos hh, em, Int.toNat_natCast]
              have r := act_wear base B gC gE gI cC cE cI k t m s g c E I x H hk ht he F.cells hbI hm (by omega) (by omega) m1 (by rw [ew, em])
              rwa [m2] at r
            · rw [if_neg hh]
              exact none (by rw [ew]; omega)
          · have ew : ∀ sh : Bool, Gd.want I (t : Int) (E k 3) (E k 4) sh (g t) input = -1 := fun _ => by
              unfold Gd.want
              rw [if_neg h5, if_neg h10, if_neg h8, if_neg h6, if_neg h7]
            have ea : ∀ sh, Gd.act I 40 (t : Int) (E k 3) (E k 4) sh (g t) input = I := fun _ => by
              unfold Gd.act
              rw [if_neg h5, if_neg h6, if_neg h7, if_neg h8, if_neg h10]
            rw [ea]
            exact none (by rw [ew]; omega)

end Go.Proofs.Ytgkomdpceilggaa

namespace Go.Proofs.Ytgkomdpceilggaa
open Go.RowKit

/-- A world's box and, behind it, the place of what is answered, in new blocks. -/
structure Gd.Boxed (w x : World) (B gC gE gI cC cE cI : Nat) (s g c : Nat → Int) (E I : Nat → Nat → Int) : Prop where
  hold : Gd.Hold x B gC gE gI cC cE cI s g c E I
  at_ : w.heap.size = B
  lC : B + 2 ≤ gC
  lE : B + 2 ≤ gE
  lI : B + 2 ≤ gI
  cap : 32 ≤ cE
  res : Lie x (B + 1) 29 11 (fun j => #[.int .i64 0, .int .i64 0, .int .i64 0, .int .i64 0, .slice none 0 0, .slice none 0 0, .slice none 0 0, .int .i64 0, .int .i64 0, .int .i64 0, Value.int .i64 0][j]?.getD undef)
  grown : w.grownBy x none

theorem Gd.Boxed.on {w x y : World} {B gC gE gI cC cE cI : Nat} {s g c : Nat → Int} {E I : Nat → Nat → Int} (h : Gd.Boxed w x B gC gE gI cC cE cI s g c E I) (hg : x.grownBy y none) : Gd.Boxed w y B gC gE gI cC cE cI s g c E I :=
  { h with hold := h.hold.on hg, res := h.res.on hg, grown := grown_trans h.grown hg }

/-- What is answered: the box's eleven cells, laid into the place for it. -/
theorem Gd.Boxed.worlds {w x : World} {B gC gE gI cC cE cI : Nat} {s g c : Nat → Int} {E I : Nat → Nat → Int} (h : Gd.Boxed w x B gC gE gI cC cE cI s g c E I) (vs : List Value) : Gd.Worlds w s g c E I (.returned (.agg (Gd.world s gC gE gI cC cE cI g))) (x.setCells (B + 1) 0 vs) := by
  have hB := h.at_
  have lC := h.lC
  have lE := h.lE
  have lI := h.lI
  have r := grown_sets (g := B + 1) vs 0 x (World.grownBy.refl _ _)
  exact ⟨gC, gE, gI, cC, cE, cI, rfl, h.cap, by omega, by omega, by omega, h.hold.cE, h.hold.cI, h.hold.eI, ⟨h.hold.lists.cells.grown r (by simp; omega), h.hold.lists.ents.grown r (by simp; omega), h.hold.lists.items.grown r (by simp; omega)⟩, own_sets (by omega) vs 0 x h.grown⟩

/-- The box and the place of what is answered, made. -/
theorem Gd.boxes (w : World) (gC gE gI cC cE cI : Nat) (s g : Nat → Int) : ∃ x, x = (w.alloc (.cells (Gd.world s gC gE gI cC cE cI g) 29)).alloc (.cells #[.int .i64 0, .int .i64 0, .int .i64 0, .int .i64 0, .slice none 0 0, .slice none 0 0, .slice none 0 0, .int .i64 0, .int .i64 0, .int .i64 0, .int .i64 0] 29) ∧ Lie x w.heap.size 29 11 (Gd.box s gC gE gI cC cE cI g) ∧ Lie x (w.heap.size + 1) 29 11 (fun j => #[.int .i64 0, .int .i64 0, .int .i64 0, .int .i64 0, .slice none 0 0, .slice none 0 0, .slice none 0 0, .int .i64 0, .int .i64 0, .int .i64 0, Value.int .i64 0][j]?.getD undef) ∧ w.grownBy x none ∧ x.heap.size = w.heap.size + 2 := by
  refine ⟨_, rfl, ((Arr.world (heap_alloc_new w (.cells (Gd.world s gC gE gI cC cE cI g) 29))).alloc _).lie, ?_, grown_alloc (World.grownBy_alloc _ _ _) _, by simp⟩
  have h := Arr.lit (heap_alloc_new (w.alloc (.cells (Gd.world s gC gE gI cC cE cI g) 29)) (.cells #[.int .i64 0, .int .i64 0, .int .i64 0, .int .i64 0, .slice none 0 0, .slice none 0 0, .slice none 0 0, .int .i64 0, .int .i64 0, .int .i64 0, .int .i64 0] 29))
  rw [show (w.alloc (.cells (Gd.world s gC gE gI cC cE cI g) 29)).heap.size = w.heap.size + 1 by simp] at h
  exact h.lie

/-- A whole world laid into a box. -/
theorem Lie.whole {x : World} {B : Nat} {T : TypeId} {F : Nat → Value} (h : Lie x B T 11 F) (s g : Nat → Int) (gC gE gI cC cE cI : Nat) : Lie (x.setCells B 0 (Gd.world s gC gE gI cC cE cI g).toList) B T 11 (Gd.box s gC gE gI cC cE cI g) := by
  refine (h.stores 0 _).congr fun j hj => ?_
  show (if 0 ≤ j ∧ j < 0 + 11 then (Gd.world s gC gE gI cC cE cI g).toList[j - 0]?.getD undef else F j) = _
  rw [if_pos (by omega), Nat.sub_zero, Array.getElem?_toList, Gd.world_at s gC gE gI cC cE cI g j hj]
  rfl

theorem Gd.res_cells {x : World} {R : Nat} (h : Lie x R 29 11 (fun j => #[.int .i64 0, .int .i64 0, .int .i64 0, .int .i64 0, .slice none 0 0, .slice none 0 0, .slice none 0 0, .int .i64 0, .int .i64 0, .int .i64 0, Value.int .i64 0][j]?.getD undef)) :
    x.cell? ⟨R, 0, none⟩ = some (.int .i64 0) ∧ x.cell? ⟨R, 1, none⟩ = some (.int .i64 0) ∧ x.cell? ⟨R, 2, none⟩ = some (.int .i64 0) ∧ x.cell? ⟨R, 3, none⟩ = some (.int .i64 0) ∧ x.cell? ⟨R, 4, none⟩ = some (.slice none 0 0) ∧ x.cell? ⟨R, 5, none⟩ = some (.slice none 0 0) ∧ x.cell? ⟨R, 6, none⟩ = some (.slice none 0 0) ∧ x.cell? ⟨R, 7, none⟩ = some (.int .i64 0) ∧ x.cell? ⟨R, 8, none⟩ = some (.int .i64 0) ∧ x.cell? ⟨R, 9, none⟩ = some (.int .i64 0) ∧ x.cell? ⟨R, 10, none⟩ = some (.int .i64 0) :=
  ⟨h.cell (by omega), h.cell (by omega), h.cell (by omega), h.cell (by omega), h.cell (by omega), h.cell (by omega), h.cell (by omega), h.cell (by omega), h.cell (by omega), h.cell (by omega), h.cell (by omega)⟩

/-- The row of a seat's hero; -1: there is none. -/
def Gd.hero (E : Nat → Nat → Int) (seat : Int) : Int := En.first (En.heroQ E seat) 32

/-- The world behind an input of a seat: items, entities, gold. -/
def Gd.nextI (c g : Nat → Int) (E I : Nat → Nat → Int) (seat input : Int) : Nat → Nat → Int :=
  if 0 ≤ seat ∧ seat < 4 ∧ 0 ≤ Gd.hero E seat then Gd.act I 40 seat (E (Gd.hero E seat).toNat 3) (E (Gd.hero E seat).toNat 4) (decide (Gr.at 384 c (E (Gd.hero E seat).toNat 3) (E (Gd.hero E seat).toNat 4) = 5)) (g seat.toNat) input else I

def Gd.nextE (E I : Nat → Nat → Int) (seat input : Int) : Nat → Nat → Int :=
  if 0 ≤ seat ∧ seat < 4 ∧ 0 ≤ Gd.hero E seat then Gd.entsOf E I (Gd.hero E seat).toNat seat input else E

def Gd.nextG (c g : Nat → Int) (E I : Nat → Nat → Int) (seat input : Int) : Nat → Int :=
  if 0 ≤ seat ∧ seat < 4 ∧ 0 ≤ Gd.hero E seat then Gd.give g seat.toNat (Gd.goldOf I seat (E (Gd.hero E seat).toNat 3) (E (Gd.hero E seat).toNat 4) (decide (Gr.at 384 c (E (Gd.hero E seat).toNat 3) (E (Gd.hero E seat).toNat 4) = 5)) (g seat.toNat) input) else g

theorem Gd.hero_pos {E : Nat → Nat → Int} {seat : Int} (h : 0 ≤ Gd.hero E seat) : ∃ k : Nat, k < 32 ∧ Gd.hero E seat = (k : Int) ∧ E k 2 = seat ∧ E k 0 = 1 := by
  unfold Gd.hero at *
  rcases En.first_cases (En.heroQ E seat) 32 with ⟨h', _⟩ | ⟨k, hk, h', hq, _⟩
  · omega
  · simp only [En.heroQ, Bool.and_eq_true, decide_eq_true_eq] at hq
    exact ⟨k, hk, h', hq.2, hq.1⟩

set_option maxHeartbeats 6400000 in
theorem do_walk (s g c : Nat → Int) (E I : Nat → Nat → Int) (gC gE gI cC cE cI : Nat) (seat input : Int) (w : World) (hL : Gd.Lists w gC gE gI c E I) (g' : Nat → Int) (E' I' : Nat → Nat → Int)
    (hno : ¬ (0 ≤ seat ∧ seat < 4 ∧ 0 ≤ Gd.hero E seat) → g' = g ∧ E' = E ∧ I' = I)
    (hyes : 0 ≤ seat → seat < 4 → ∀ k : Nat, k < 32 → Gd.hero E seat = (k : Int) → ∀ (B g1 g2 g3 c1 c2 c3 : Nat) (x : World), Gd.Boxed w x B g1 g2 g3 c1 c2 c3 s g c E I → Calls Try.prog 42 #[.pointer (some ⟨B, 0, none⟩), .pointer (some ⟨g2, k * 11, none⟩), .int .i64 input] x fun e x' => e = .returned (.tuple #[]) ∧ Gd.Boxed w x' B g1 g2 g3 c1 c2 c3 s g' c E' I') :
    Calls Try.prog 13 #[.agg (Gd.world s gC gE gI cC cE cI g), .int .i64 seat, .int .i64 input] w (Gd.Worlds w s g' c E' I') := by
  obtain ⟨w0, hw0, hbox, hres, hg0, hsz⟩ := Gd.boxes w gC gE gI cC cE cI s g
  have ca := apart_any s g c E I gC gE gI cC cE cI w0 (hL.on hg0)
  have hno' := hide hno
  have hyes' := hide hyes
  obtain ⟨b0, b1, b2, b3, b4, b5, b6, b7, b8, b9, b10⟩ := hbox.eleven
  have hbx := hide hbox
  have hrs := hide hres
  have hg0' := hide hg0
  have hsz' := hide hsz
  have ca' := hide ca
  have hfB := hbox.free
  clear hL hno hyes ca hbox hres hg0 hsz
  unfold Gd.world at hw0 ca' ⊢
  go_enter Try.func13, Try.ntmps13
  go_upto_region 1 with fail
  rw [← hw0]
  clear hw0
  obtain ⟨B, hB⟩ : ∃ B, w.heap.size = B := ⟨_, rfl⟩
  rw [hB] at hbx hrs hsz' b0 b1 b2 b3 b4 b5 b6 b7 b8 b9 b10 ⊢
  have hB' := hide hB
  rw [hB] at hfB
  clear hB
  go_cut [] from 8 (fun wx => ∃ g1 g2 g3 c1 c2 c3, Hid (Gd.Boxed w wx B g1 g2 g3 c1 c2 c3 s g c E I))
  case first =>
    go_wp2_with fail
    refine (unhide ca').mono ?_
    rintro e w1 ⟨g1, g2, g3, c1, c2, c3, rfl, hcap, l1, l2, l3, n1, n2, n3, hL1, hg1⟩
    obtain ⟨y0, y1, y2, y3, y4, y5, y6, y7, y8, y9, y10⟩ := ((unhide hbx).on hg1).eleven
    have fB := ((unhide hbx).on hg1).free
    have fin : Hid (Gd.Boxed w (w1.setCells B 0 (Gd.world s g1 g2 g3 c1 c2 c3 g).toList) B g1 g2 g3 c1 c2 c3 s g c E I) := by
      have r := grown_sets (g := B) (Gd.world s g1 g2 g3 c1 c2 c3 g).toList 0 w1 (World.grownBy.refl _ _)
      have hB := unhide hB'
      have hs := unhide hsz'
      exact ⟨⟨((unhide hbx).on hg1).whole s g g1 g2 g3 c1 c2 c3, ⟨hL1.cells.grown r (by simp; omega), hL1.ents.grown r (by simp; omega), hL1.items.grown r (by simp; omega)⟩, by omega, by omega, by omega, n1, n2, n3⟩, hB, by omega, by omega, by omega, hcap, ((unhide hrs).on hg1).grown r (by simp), own_sets (by omega) _ 0 w1 (grown_trans (unhide hg0') hg1)⟩
    unfold Gd.world at fin ⊢
    clear hcap l1 l2 l3 n1 n2 n3 hL1 hg1 b0 b1 b2 b3 b4 b5 b6 b7 b8 b9 b10 hfB ca'
    go_wp2_with fail
    go_meet
    exact ⟨g1, g2, g3, c1, c2, c3, fin⟩
  case rest =>
    obtain ⟨g1, g2, g3, c1, c2, c3, hX⟩ := hcut
    clear b0 b1 b2 b3 b4 b5 b6 b7 b8 b9 b10 hfB ca' hbx hrs hg0' hsz' hB'
    clear w0
    have cs0 := fun wx => isSeat_any seat wx
    by_cases hseat : 0 ≤ seat ∧ seat < 4
    · rw [show Gd.isSeat seat = true from decide_eq_true hseat] at cs0
      have cs := hide cs0
      clear cs0
      obtain ⟨hs0, hs4⟩ := hseat
      go_wp2_with fail
      refine (unhide cs _).mono ?_
      rintro e wy ⟨rfl, hw⟩
      subst wy
      have b5 := (unhide hX).hold.box.eleven.2.2.2.2.2.1
      have ch0 := hero_any g2 32 c2 E seat wc (unhide hX).hold.lists.own.ents (unhide hX).cap
      have hp := @Gd.hero_pos E seat
      change Calls _ _ _ _ (Says wc (.int .i64 (Gd.hero E seat))) at ch0
      obtain ⟨h, hh⟩ : ∃ h, Gd.hero E seat = h := ⟨_, rfl⟩
      rw [hh] at ch0 hp
      have ch := hide ch0
      have hp' := hide hp
      have hh' := hide hh
      clear ch0 hp hh cs
      go_wp2_with fail
      refine (unhide ch).mono ?_
      rintro e w2 ⟨rfl, hg2⟩
      have hX2 := hide ((unhide hX).on hg2)
      clear hg2 ch b5 hX
      by_cases hpos : 0 ≤ h
      · obtain ⟨k, hk, rfl, _⟩ := unhide hp' hpos
        have b5 := (unhide hX2).hold.box.eleven.2.2.2.2.2.1
        have ca := hide (unhide hyes' hs0 hs4 k hk (unhide hh') B g1 g2 g3 c1 c2 c3 w2 (unhide hX2))
        have hk' : (k : Int) < 32 := by omega
        clear hp' hh'
        go_wp2_with fail
        refine (unhide ca).mono ?_
        rintro e w3 ⟨rfl, hX3⟩
        clear ca b5 hX2
        have hbx := hide hX3
        obtain ⟨b0, b1, b2, b3, b4, b5, b6, b7, b8, b9, b10⟩ := (unhide hbx).hold.box.eleven
        have fz := (unhide hbx).res.free
        obtain ⟨z0, z1, z2, z3, z4, z5, z6, z7, z8, z9, z10⟩ := Gd.res_cells (unhide hbx).res
        have hfin := hide (fun vs => (unhide hbx).worlds vs)
        go_wp2
        refine bodyPost_ret (v := .agg (Gd.world s g1 g2 g3 c1 c2 c3 g')) (by simp [results, Try.results13, go_sem, Gd.world, z0, z1, z2, z3, z4, z5, z6, z7, z8, z9, z10]) rfl ?_
        exact unhide hfin [_, _, _, _, _, _, _, _, _, _, _]
      · obtain ⟨rfl, rfl, rfl⟩ := unhide hno' (fun hc => hpos (by rw [← unhide hh']; exact hc.2.2))
        have hneg : h < 0 := by omega
        clear hp' hh' hyes' hno'
        have hbx := hide (unhide hX2)
        obtain ⟨b0, b1, b2, b3, b4, b5, b6, b7, b8, b9, b10⟩ := (unhide hbx).hold.box.eleven
        have fz := (unhide hbx).res.free
        obtain ⟨z0, z1, z2, z3, z4, z5, z6, z7, z8, z9, z10⟩ := Gd.res_cells (unhide hbx).res
        have hfin := hide (fun vs => (unhide hbx).worlds vs)
        go_wp2
        refine bodyPost_ret (v := .agg (Gd.world s g1 g2 g3 c1 c2 c3 g')) (by simp [results, Try.results13, go_sem, Gd.world, z0, z1, z2, z3, z4, z5, z6, z7, z8, z9, z10]) rfl ?_
        exact unhide hfin [_, _, _, _, _, _, _, _, _, _, _]
    · rw [show Gd.isSeat seat = false from decide_eq_false hseat] at cs0
      have cs := hide cs0
      obtain ⟨rfl, rfl, rfl⟩ := unhide hno' (fun hc => hseat ⟨hc.1, hc.2.1⟩)
      clear cs0 hno' hyes'
      go_wp2_with fail
      refine (unhide cs _).mono ?_
      rintro e wy ⟨rfl, hw⟩
      subst wy
      have hbx := hide (unhide hX)
      obtain ⟨b0, b1, b2, b3, b4, b5, b6, b7, b8, b9, b10⟩ := (unhide hbx).hold.box.eleven
      have fz := (unhide hbx).res.free
      obtain ⟨z0, z1, z2, z3, z4, z5, z6, z7, z8, z9, z10⟩ := Gd.res_cells (unhide hbx).res
      have hfin := hide (fun vs => (unhide hbx).worlds vs)
      go_wp2
      refine bodyPost_ret (v := .agg (Gd.world s g1 g2 g3 c1 c2 c3 g')) (by simp [results, Try.results13, go_sem, Gd.world, z0, z1, z2, z3, z4, z5, z6, z7, z8, z9, z10]) rfl ?_
      exact unhide hfin [_, _, _, _, _, _, _, _, _, _, _]

theorem do_any (s g c : Nat → Int) (E I : Nat → Nat → Int) (gC gE gI cC cE cI : Nat) (seat input : Int) (w : World) (hL : Gd.Lists w gC gE gI c E I) (F : Gd.Fine c g E I) :
    Calls Try.prog 13 #[.agg (Gd.world s gC gE gI cC cE cI g), .int .i64 seat, .int .i64 input] w (Gd.Worlds w s (Gd.nextG c g E I seat input) c (Gd.nextE E I seat input) (Gd.nextI c g E I seat input)) := by
  refine do_walk s g c E I gC gE gI cC cE cI seat input w hL _ _ _ (fun h => ⟨if_neg h, if_neg h, if_neg h⟩) ?_
  intro s0 s4 k hk hh B g1 g2 g3 c1 c2 c3 x hX
  obtain ⟨t, rfl⟩ : ∃ t : Nat, seat = (t : Int) := ⟨seat.toNat, by omega⟩
  obtain ⟨k', _, hk', he, _⟩ := Gd.hero_pos (E := E) (seat := (t : Int)) (by omega)
  have ek : k' = k := by omega
  rw [ek] at he
  have c : 0 ≤ (t : Int) ∧ (t : Int) < 4 ∧ 0 ≤ Gd.hero E (t : Int) := ⟨s0, s4, by omega⟩
  unfold Gd.nextG Gd.nextE Gd.nextI
  rw [if_pos c, if_pos c, if_pos c, hh, Int.toNat_natCast, Int.toNat_natCast]
  have b1 := hX.at_
  have b2 := hX.lE
  have b3 := hX.lI
  have b4 := hX.lC
  refine (act_all (fun i => i ≠ B ∧ i ≠ g2 ∧ i ≠ g3) B g1 g2 g3 c1 c2 c3 k t s g _ E I input x hX.hold hk (by omega) he F (fun h => h.1 rfl) (fun h => h.2.1 rfl) (fun h => h.2.2 rfl)).mono ?_
  rintro e x' ⟨h1, h2, h3⟩
  exact ⟨h1, h2, hX.at_, hX.lC, hX.lE, hX.lI, hX.cap, hX.res.frame h3 ⟨by omega, by omega, by omega⟩, h3.grown hX.grown (fun i hi => ⟨by omega, by omega, by omega⟩)⟩

end Go.Proofs.Ytgkomdpceilggaa

namespace Go.Proofs.Ytgkomdpceilggaa
open Go.RowKit

/-- May an item be where it is? -/
def Gd.fitsB (c : Nat → Int) (k p a b : Int) : Bool :=
  decide (1 ≤ k ∧ k ≤ 4) && (if p = 1 then Gr.walkB (Gr.at 384 c a b) else if p = 2 then Gd.isSeat a && (decide (0 ≤ b) && (decide (b < 4) && decide (k ≠ 4)))
    else if p = 3 then Gd.isSeat a && (Gd.serves k 7 && decide (b = k - 2)) else if p = 4 then decide (0 ≤ a) && (decide (a < 3) && (decide (b = 0) && decide (k ≠ 4))) else false)

theorem Gd.serves_7 (k : Int) : Gd.serves k 7 = (decide (k = 2) || decide (k = 3)) := by
  unfold Gd.serves
  rw [if_neg (by decide), if_pos rfl]

theorem Gd.at_out {c : Nat → Int} {x y : Int} (h : Gr.inB x y = false) : Gr.at 384 c x y = 0 := by
  unfold Gr.at
  rw [if_neg (by rw [h]; simp)]

theorem Gd.fits_iff (c r : Nat → Int) : Gd.fitsB c (r 0) (r 1) (r 2) (r 3) = true ↔ Gd.Placed c r := by
  unfold Gd.fitsB Gd.Placed
  rw [Bool.and_eq_true, decide_eq_true_eq]
  constructor
  · rintro ⟨⟨h1, h2⟩, h⟩
    refine ⟨h1, h2, ?_⟩
    by_cases p1 : r 1 = 1
    · rw [if_pos p1] at h
      refine .inl ⟨p1, ?_, h⟩
      cases hin : Gr.inB (r 2) (r 3) with
      | true => rfl
      | false => rw [Gd.at_out hin] at h; simp [Gr.walkB] at h
    · rw [if_neg p1] at h
      by_cases p2 : r 1 = 2
      · rw [if_pos p2] at h
        simp only [Gd.isSeat, Bool.and_eq_true, decide_eq_true_eq] at h
        exact .inr (.inl ⟨p2, h.1.1, h.1.2, h.2.1, h.2.2.1, h.2.2.2⟩)
      · rw [if_neg p2] at h
        by_cases p3 : r 1 = 3
        · rw [if_pos p3] at h
          simp only [Gd.isSeat, Gd.serves_7, Bool.and_eq_true, Bool.or_eq_true, decide_eq_true_eq] at h
          obtain ⟨⟨s0, s1⟩, hs, hb⟩ := h
          exact .inr (.inr (.inl ⟨p3, s0, s1, by omega⟩))
        · rw [if_neg p3] at h
          by_cases p4 : r 1 = 4
          · rw [if_pos p4] at h
            simp only [Bool.and_eq_true, decide_eq_true_eq] at h
            exact .inr (.inr (.inr ⟨p4, h.1, h.2.1, h.2.2.1, h.2.2.2⟩))
          · rw [if_neg p4] at h
            cases h
  · rintro ⟨h1, h2, h | h | h | h⟩
    · exact ⟨⟨h1, h2⟩, by rw [if_pos h.1]; exact h.2.2⟩
    · refine ⟨⟨h1, h2⟩, ?_⟩
      rw [if_neg (by omega), if_pos h.1]
      simp only [Gd.isSeat, Bool.and_eq_true, decide_eq_true_eq]
      exact ⟨⟨h.2.1, h.2.2.1⟩, h.2.2.2.1, h.2.2.2.2.1, h.2.2.2.2.2⟩
    · refine ⟨⟨h1, h2⟩, ?_⟩
      rw [if_neg (by omega), if_neg (by omega), if_pos h.1]
      simp only [Gd.isSeat, Gd.serves_7, Bool.and_eq_true, Bool.or_eq_true, decide_eq_true_eq]
      exact ⟨⟨h.2.1, h.2.2.1⟩, by omega, by omega⟩
    · refine ⟨⟨h1, h2⟩, ?_⟩
      rw [if_neg (by omega), if_neg (by omega), if_neg (by omega), if_pos h.1]
      simp only [Bool.and_eq_true, decide_eq_true_eq]
      exact ⟨h.2.1, h.2.2.1, h.2.2.2.1, h.2.2.2.2⟩

theorem ret_says {w w' : World} {a b : Bool} (h : a = b) (hg : w.grownBy w' none) : Says w (.bool b) (.returned (.bool a)) w' := ⟨ret_bool h, hg⟩

set_option maxHeartbeats 3200000 in
theorem fits_any (gC cC : Nat) (c : Nat → Int) (k p a b : Int) (w : World) (hC : Vec w.heap.size w (some ⟨gC, 0, none⟩) 384 (Byts c)) (hc : ∀ i, 0 ≤ c i ∧ c i ≤ 255) :
    Calls Try.prog 48 #[.slice (some ⟨gC, 0, none⟩) 384 cC, .agg #[.int .i64 k, .int .i64 p, .int .i64 a, .int .i64 b]] w (Says w (.bool (Gd.fitsB c k p a b))) := by
  obtain ⟨r, hr⟩ : ∃ r, Gd.fitsB c k p a b = r := ⟨_, rfl⟩
  rw [hr]
  have hr' := hide hr
  have hg := hide (fun (o1 : Obj) => World.grownBy_alloc w o1 none)
  have hC' := hide hC
  have hc' := hide hc
  clear hr hC hc
  by_cases hk1 : 1 ≤ k
  · by_cases hk4 : k ≤ 4
    · have ek : Hid (decide (1 ≤ k ∧ k ≤ 4) = true) := decide_eq_true ⟨hk1, hk4⟩
      have nk1 : ¬ k < 1 := by omega
      have nk4 : ¬ k > 4 := by omega
      by_cases p1 : p = 1
      · subst p1
        have he := unhide hr'
        unfold Gd.fitsB at he
        rw [unhide ek, Bool.true_and, if_pos rfl] at he
        have he' := hide he
        clear he
        have cA : Hid (∀ o : Obj, Calls Try.prog 81 #[.slice (some ⟨gC, 0, none⟩) 384 cC, .int .i64 a, .int .i64 b] (w.alloc o) fun e w' => e = .returned (.int .i64 (Gr.at 384 c a b)) ∧ w' = w.alloc o) := fun o => at_any w.heap.size (some ⟨gC, 0, none⟩) 384 cC c a b (w.alloc o) ((unhide hC').kept (none_below (World.grownBy_alloc _ _ _))) (unhide hc')
        obtain ⟨A, hA⟩ : ∃ A, Gr.at 384 c a b = A := ⟨_, rfl⟩
        rw [hA] at cA he'
        clear hA
        go_enter Try.func48, Try.ntmps48
        go_wp2_with fail
        refine (unhide cA _).mono ?_
        rintro e w' ⟨rfl, hw⟩
        subst w'
        go_wp2_with fail
        refine (walk_any A _).mono ?_
        rintro e w' ⟨rfl, hw⟩
        subst w'
        go_wp2
        go_ret
        exact ret_says (unhide he') (unhide hg _)
      · by_cases p2 : p = 2
        · subst p2
          have he := unhide hr'
          unfold Gd.fitsB at he
          rw [unhide ek, Bool.true_and, if_neg (by decide), if_pos rfl] at he
          have cs := fun wx => isSeat_any a wx
          obtain ⟨S, hS⟩ : ∃ S, Gd.isSeat a = S := ⟨_, rfl⟩
          rw [hS] at he cs
          have cs' := hide cs
          clear cs hS p1
          cases S with
          | false =>
            rw [Bool.false_and] at he
            have he' := hide he
            clear he
            go_enter Try.func48, Try.ntmps48
            go_wp2_with fail
            refine (unhide cs' _).mono ?_
            rintro e w' ⟨rfl, hw⟩
            subst w'
            go_wp2
            go_ret
            exact ret_says (unhide he') (unhide hg _)
          | true =>
            rw [Bool.true_and] at he
            have he' := hide he
            clear he
            by_cases b0 : 0 ≤ b
            · by_cases b4 : b < 4
              · by_cases k4 : k = 4
                · have hf := hide (show false = r by rw [← unhide he']; simp [k4])
                  subst k4
                  go_enter Try.func48, Try.ntmps48
                  go_wp2_with fail
                  refine (unhide cs' _).mono ?_
                  rintro e w' ⟨rfl, hw⟩
                  subst w'
                  go_wp2
                  go_ret
                  exact ret_says (unhide hf) (unhide hg _)
                · have hf := hide (show true = r by rw [← unhide he']; simp [k4, b0, b4])
                  have k4' : (k == 4) = false := by simp [k4]
                  go_enter Try.func48, Try.ntmps48
                  go_wp2_with fail
                  refine (unhide cs' _).mono ?_
                  rintro e w' ⟨rfl, hw⟩
                  subst w'
                  go_wp2
                  go_ret
                  exact ret_says (by rw [← unhide hf]; simp [k4]) (unhide hg _)
              · have hf := hide (show false = r by rw [← unhide he']; simp [b4])
                go_enter Try.func48, Try.ntmps48
                go_wp2_with fail
                refine (unhide cs' _).mono ?_
                rintro e w' ⟨rfl, hw⟩
                subst w'
                go_wp2
                go_ret
                exact ret_says (unhide hf) (unhide hg _)
            · have hf := hide (show false = r by rw [← unhide he']; simp [b0])
              go_enter Try.func48, Try.ntmps48
              go_wp2_with fail
              refine (unhide cs' _).mono ?_
              rintro e w' ⟨rfl, hw⟩
              subst w'
              go_wp2
              go_ret
              exact ret_says (unhide hf) (unhide hg _)
        · by_cases p3 : p = 3
          · subst p3
            have he := unhide hr'
            unfold Gd.fitsB at he
            rw [unhide ek, Bool.true_and, if_neg (by decide), if_neg (by decide), if_pos rfl] at he
            have cs0 := fun wx => isSeat_any a wx
            have cv0 := fun wx => serves_any k 7 wx
            obtain ⟨S, hS⟩ : ∃ S, Gd.isSeat a = S := ⟨_, rfl⟩
            obtain ⟨V, hV⟩ : ∃ V, Gd.serves k 7 = V := ⟨_, rfl⟩
            rw [hS, hV] at he
            rw [hS] at cs0
            rw [hV] at cv0
            have cs0' := hide cs0
            have cv0' := hide cv0
            have he' := hide he
            have hcmp : ∀ wx : World, (binOp .eql 67 (.agg #[.int .i64 3, .int .i64 a, .int .i64 b]) (.agg #[.int .i64 3, .int .i64 a, .int .i64 (k - 2)])).run Try.prog wx = .ok (.bool (decide (b = k - 2))) wx := fun wx => by rw [run_eq_place]; simp
            obtain ⟨D, hD⟩ : ∃ D, decide (b = k - 2) = D := ⟨_, rfl⟩
            rw [hD] at hcmp
            have hD' := hide hD
            have k0 : 0 ≤ k := by omega
            have k100 : k ≤ 100 := by omega
            clear he cs0 cv0 hS hV hD p1 p2
            go_enter Try.func48, Try.ntmps48
            go_wp2_with fail
            obtain ⟨w1, hw1⟩ : ∃ w1, w.alloc (.cells #[.int .i64 k, .int .i64 3, .int .i64 a, .int .i64 b] 38) = w1 := ⟨_, rfl⟩
            have hnew := fun j (hj : j < 4) => (Arr.lit (heap_alloc_new w (.cells #[.int .i64 k, .int .i64 3, .int .i64 a, .int .i64 b] 38))).cell (i := j) hj
            have hg1 := hide (show w.grownBy w1 none by rw [← hw1]; exact World.grownBy_alloc _ _ _)
            have hl1 : w.heap.size < w1.heap.size := by rw [← hw1]; simp
            rw [hw1] at hnew ⊢
            clear hw1
            refine wp_region_grown (by kernel_rfl) (by kernel_rfl) ?_
            intro St hN W hI hx
            have c0 : ∀ σ, (W σ).cell? ⟨w.heap.size, 0, none⟩ = some (.int .i64 k) := fun σ => (grown_cell (hI σ) _ 0 hl1 (by simp)).trans (hnew 0 (by omega))
            have c1 : ∀ σ, (W σ).cell? ⟨w.heap.size, 1, none⟩ = some (.int .i64 3) := fun σ => (grown_cell (hI σ) _ 1 hl1 (by simp)).trans (hnew 1 (by omega))
            have c2 : ∀ σ, (W σ).cell? ⟨w.heap.size, 2, none⟩ = some (.int .i64 a) := fun σ => (grown_cell (hI σ) _ 2 hl1 (by simp)).trans (hnew 2 (by omega))
            have c3 : ∀ σ, (W σ).cell? ⟨w.heap.size, 3, none⟩ = some (.int .i64 b) := fun σ => (grown_cell (hI σ) _ 3 hl1 (by simp)).trans (hnew 3 (by omega))
            have cs : ∀ σ, Calls Try.prog 40 #[.int .i64 a] (W σ) fun e w'' => e = .returned (.bool S) ∧ ∃ σ', w'' = W σ' := fun σ => (unhide cs0' (W σ)).mono fun e w'' ⟨h1, h2⟩ => ⟨h1, σ, h2⟩
            have cv : ∀ σ, Calls Try.prog 82 #[.int .i64 k, .int .i64 7] (W σ) fun e w'' => e = .returned (.bool V) ∧ ∃ σ', w'' = W σ' := fun σ => (unhide cv0' (W σ)).mono fun e w'' ⟨h1, h2⟩ => ⟨h1, σ, h2⟩
            have cp : ∀ σ, Calls Try.prog 50 #[.agg #[.int .i64 k, .int .i64 3, .int .i64 a, .int .i64 b]] (W σ) fun e w'' => e = .returned (.agg #[.int .i64 3, .int .i64 a, .int .i64 b]) ∧ ∃ σ', w'' = W σ' := fun σ => calls_class hI hx (placeOf_any _ _ _ _ _)
            have cw : ∀ σ, Calls Try.prog 83 #[.int .i64 a, .int .i64 k] (W σ) fun e w'' => e = .returned (.agg #[.int .i64 3, .int .i64 a, .int .i64 (k - 2)]) ∧ ∃ σ', w'' = W σ' := fun σ => calls_class hI hx (wornBy_any a k k0 k100 _)
            have hI2 := hide hI
            clear hI hx hnew hl1 k0 k100
            cases S with
            | false =>
              repeat (go_big_quiet_step (first | (go_at_call 40; exact cs _) | (go_at_call 82; exact cv _) | (go_at_call 50; exact cp _) | (go_at_call 83; exact cw _)))
              refine wpQuiet_nil ?_
              rintro _ ⟨σ, rfl⟩
              obtain ⟨wq, hwq⟩ : ∃ wq, W σ = wq := ⟨_, rfl⟩
              have hgq := hide (grown_trans (unhide hg1) (unhide hI2 σ))
              rw [hwq] at hgq ⊢
              have hf := hide (show false = r by rw [← unhide he']; simp)
              clear c0 c1 c2 c3 cs cv cp cw hI2 hwq hcmp
              clear σ W hN St
              go_wp2
              go_ret
              exact ret_says (unhide hf) (unhide hgq)
            | true =>
              cases V with
              | false =>
                repeat (go_big_quiet_step (first | (go_at_call 40; exact cs _) | (go_at_call 82; exact cv _) | (go_at_call 50; exact cp _) | (go_at_call 83; exact cw _)))
                refine wpQuiet_nil ?_
                rintro _ ⟨σ, rfl⟩
                obtain ⟨wq, hwq⟩ : ∃ wq, W σ = wq := ⟨_, rfl⟩
                have hgq := hide (grown_trans (unhide hg1) (unhide hI2 σ))
                rw [hwq] at hgq ⊢
                have hf := hide (show false = r by rw [← unhide he']; simp)
                clear c0 c1 c2 c3 cs cv cp cw hI2 hwq hcmp
                clear σ W hN St
                go_wp2
                go_ret
                exact ret_says (unhide hf) (unhide hgq)
              | true =>
                repeat (go_big_quiet_step (first | (go_at_call 40; exact cs _) | (go_at_call 82; exact cv _) | (go_at_call 50; exact cp _) | (go_at_call 83; exact cw _)))
                refine wpQuiet_nil ?_
                rintro _ ⟨σ, rfl⟩
                obtain ⟨wq, hwq⟩ : ∃ wq, W σ = wq := ⟨_, rfl⟩
                have hgq := hide (grown_trans (unhide hg1) (unhide hI2 σ))
                rw [hwq] at hgq ⊢
                have hf := hide (show D = r by rw [← unhide he', unhide hD']; simp)
                clear c0 c1 c2 c3 cs cv cp cw hI2 hwq hcmp
                clear σ W hN St
                go_wp2
                go_ret
                exact ret_says (unhide hf) (unhide hgq)
          · by_cases p4 : p = 4
            · subst p4
              have he := unhide hr'
              unfold Gd.fitsB at he
              rw [unhide ek, Bool.true_and, if_neg (by decide), if_neg (by decide), if_neg (by decide), if_pos rfl] at he
              have he' := hide he
              clear he p1 p2 p3
              by_cases a0 : 0 ≤ a
              · by_cases a3 : a < 3
                · by_cases b0 : b = 0
                  · by_cases k4 : k = 4
                    · have hf := hide (show false = r by rw [← unhide he']; simp [k4])
                      subst k4
                      go_enter Try.func48, Try.ntmps48
                      go_wp2
                      go_ret
                      exact ret_says (unhide hf) (unhide hg _)
                    · have hf := hide (show true = r by rw [← unhide he']; simp [k4, a0, a3, b0])
                      have k4' : (k == 4) = false := by simp [k4]
                      subst b0
                      go_enter Try.func48, Try.ntmps48
                      go_wp2
                      go_ret
                      exact ret_says (by rw [← unhide hf]; simp [k4]) (unhide hg _)
                  · have hf := hide (show false = r by rw [← unhide he']; simp [b0])
                    have b0' : (b == 0) = false := by simp [b0]
                    go_enter Try.func48, Try.ntmps48
                    go_wp2
                    go_ret
                    exact ret_says (unhide hf) (unhide hg _)
                · have hf := hide (show false = r by rw [← unhide he']; simp [a3])
                  go_enter Try.func48, Try.ntmps48
                  go_wp2
                  go_ret
                  exact ret_says (unhide hf) (unhide hg _)
              · have hf := hide (show false = r by rw [← unhide he']; simp [a0])
                go_enter Try.func48, Try.ntmps48
                go_wp2
                go_ret
                exact ret_says (unhide hf) (unhide hg _)
            · have he := unhide hr'
              unfold Gd.fitsB at he
              rw [unhide ek, Bool.true_and, if_neg p1, if_neg p2, if_neg p3, if_neg p4] at he
              have he' := hide he
              clear he
              go_enter Try.func48, Try.ntmps48
              go_wp2
              go_ret
              exact ret_says (unhide he') (unhide hg _)
    · have he := unhide hr'
      unfold Gd.fitsB at he
      rw [decide_eq_false (show ¬ (1 ≤ k ∧ k ≤ 4) by omega), Bool.false_and] at he
      have he' := hide he
      have nk1 : ¬ k < 1 := by omega
      have nk4 : k > 4 := by omega
      clear he
      go_enter Try.func48, Try.ntmps48
      go_wp2
      go_ret
      exact ret_says (unhide he') (unhide hg _)
  · have he := unhide hr'
    unfold Gd.fitsB at he
    rw [decide_eq_false (show ¬ (1 ≤ k ∧ k ≤ 4) by omega), Bool.false_and] at he
    have he' := hide he
    have nk1 : k < 1 := by omega
    clear he
    go_enter Try.func48, Try.ntmps48
    go_wp2
    go_ret
    exact ret_says (unhide he') (unhide hg _)

end Go.Proofs.Ytgkomdpceilggaa

namespace Go.Proofs.Ytgkomdpceilggaa
open Go.RowKit

/-- An item is gone, or it may be where it is, and none below is there. -/
def Gd.good (c : Nat → Int) (I : Nat → Nat → Int) (j : Nat) : Prop := Gd.zeroB (I j 0) (I j 1) (I j 2) (I j 3) = true ∨ (Gd.fitsB c (I j 0) (I j 1) (I j 2) (I j 3) = true ∧ Gd.find I 40 (I j 1) (I j 2) (I j 3) = (j : Int))

theorem Gd.zero_iff (r : Nat → Int) : Gd.zeroB (r 0) (r 1) (r 2) (r 3) = true ↔ Gd.Zero r := by
  unfold Gd.zeroB Gd.Zero
  rw [decide_eq_true_eq]

theorem Gd.ok_good {c : Nat → Int} {I : Nat → Nat → Int} (h : Gd.Ok c 40 I) {k : Nat} (hk : k < 40) : Gd.good c I k := by
  rcases h.each k hk with hz | hp
  · exact .inl ((Gd.zero_iff (I k)).2 hz)
  · refine .inr ⟨(Gd.fits_iff c (I k)).2 hp, ?_⟩
    rcases Gd.find_cases I 40 (I k 1) (I k 2) (I k 3) with ⟨_, hno⟩ | ⟨m, hm, e, h1, h2, h3, _⟩
    · exact absurd ⟨rfl, rfl, rfl⟩ (hno k hk)
    · by_cases em : m = k
      · rw [e, em]
      · exact absurd (⟨h1, h2, h3⟩ : Gd.Share (I m) (I k)) (h.one k m hk hm (fun e => em e.symm) hp.where_ne)

theorem Gd.good_ok {c : Nat → Int} {I : Nat → Nat → Int} (h : ∀ k, k < 40 → Gd.good c I k) : Gd.Ok c 40 I := by
  refine ⟨fun i hi => ?_, fun i k hi hk hik hw hs => ?_⟩
  · rcases h i hi with hz | ⟨hp, _⟩
    · exact .inl ((Gd.zero_iff (I i)).1 hz)
    · exact .inr ((Gd.fits_iff c (I i)).1 hp)
  · have fi : Gd.find I 40 (I i 1) (I i 2) (I i 3) = (i : Int) := by
      rcases h i hi with hz | ⟨_, hf⟩
      · exact absurd ((Gd.zero_iff (I i)).1 hz).2.1 hw
      · exact hf
    have fk : Gd.find I 40 (I k 1) (I k 2) (I k 3) = (k : Int) := by
      rcases h k hk with hz | ⟨_, hf⟩
      · exact absurd (hs.1 ▸ ((Gd.zero_iff (I k)).1 hz).2.1) hw
      · exact hf
    rw [hs.1, hs.2.1, hs.2.2, fi] at fk
    omega

/-- A call tells a truth; nothing that was there has turned. -/
def Tells7 (w : World) (p : Prop) (e : Ending) (w' : World) : Prop := ∃ r : Bool, e = .returned (.bool r) ∧ (r = true ↔ p) ∧ w.grownBy w' none

set_option maxHeartbeats 6400000 in
theorem check_any (s g c : Nat → Int) (E I : Nat → Nat → Int) (gC gE gI cC cE cI : Nat) (w : World) (hL : Gd.Lists w gC gE gI c E I) (hc : ∀ i, 0 ≤ c i ∧ c i ≤ 255) :
    Calls Try.prog 16 #[.agg (Gd.world s gC gE gI cC cE cI g)] w (Tells7 w (Gd.Ok c 40 I)) := by
  obtain ⟨w0, hw0⟩ : ∃ w0, w0 = w.alloc (.cells (Gd.world s gC gE gI cC cE cI g) 29) := ⟨_, rfl⟩
  have hbox : Lie w0 w.heap.size 29 11 (Gd.box s gC gE gI cC cE cI g) := by rw [hw0]; exact (Arr.world (heap_alloc_new w _)).lie
  have hg0 : w.grownBy w0 none := by rw [hw0]; exact World.grownBy_alloc _ _ _
  have hL0 := hide (hL.on hg0)
  obtain ⟨B, hB⟩ : ∃ B, w.heap.size = B := ⟨_, rfl⟩
  rw [hB] at hbox
  have hbox' := hide hbox
  have hg0' := hide hg0
  have hc' := hide hc
  obtain ⟨_, _, _, _, b4, _, b6, _⟩ := hbox.eleven
  have hlB := hbox.lt
  clear hL hc hbox hg0
  unfold Gd.world at hw0 ⊢
  go_enter Try.func16, Try.ntmps16
  go_upto_region 1 with fail
  rw [← hw0]
  clear hw0 hB
  go_wp2_with fail
  go_loopw [12] (fun i wr => ∃ k : Nat, k ≤ 40 ∧ i = .int .i64 (k : Int) ∧ (∀ j, j < k → Gd.good c I j) ∧ w0.grownBy wr none) (fun i _ => 200 - (intOf i).toNat)
  case atStart => exact ⟨0, by omega, rfl, fun j hj => by omega, World.grownBy.refl _ _⟩
  case round =>
    obtain ⟨k, hk, rfl, hno, hgr⟩ := hrel
    have hno' := hide hno
    have hgr' := hide hgr
    clear hno hgr b4 b6
    by_cases hlt : k < 40
    · obtain ⟨u0, u1, u2, u3⟩ := ((unhide hL0).on (unhide hgr')).its.row hlt
      have hlt' : (k : Int) < 40 := by omega
      have HL := hide hlt
      clear hlt
      go_wp2_with fail
      obtain ⟨wb, hwb⟩ : ∃ wb, wr.alloc (.cells #[.int .i64 (I k 0), .int .i64 (I k 1), .int .i64 (I k 2), .int .i64 (I k 3)] 38) = wb := ⟨_, rfl⟩
      have hga : wr.grownBy wb none := by rw [← hwb]; exact World.grownBy_alloc _ _ _
      have hnew := (Arr.lit (heap_alloc_new wr (.cells #[.int .i64 (I k 0), .int .i64 (I k 1), .int .i64 (I k 2), .int .i64 (I k 3)] 38))).lie
      rw [hwb] at hnew
      have hgb := hide (grown_trans (unhide hgr') hga)
      have hnew' := hide hnew
      obtain ⟨P, hP⟩ : ∃ P, wr.heap.size = P := ⟨_, rfl⟩
      rw [hP] at hnew'
      clear hnew hga
      have cg := isGone_any (I k 0) (I k 1) (I k 2) (I k 3) wb
      have hgd : Hid (Gd.good c I k ↔ (Gd.zeroB (I k 0) (I k 1) (I k 2) (I k 3) = true ∨ (Gd.fitsB c (I k 0) (I k 1) (I k 2) (I k 3) = true ∧ Gd.find I 40 (I k 1) (I k 2) (I k 3) = (k : Int)))) := Iff.rfl
      obtain ⟨z, hz⟩ : ∃ z, Gd.zeroB (I k 0) (I k 1) (I k 2) (I k 3) = z := ⟨_, rfl⟩
      rw [hz] at cg hgd
      have cg' := hide cg
      rw [hwb, hP]
      clear cg hz hwb hP u0 u1 u2 u3
      refine (unhide cg').mono ?_
      rintro e w1 ⟨rfl, hg1⟩
      have hg1' := hide (grown_trans (unhide hgb) hg1)
      have hn1 := hide ((unhide hnew').on hg1)
      clear cg' hg1 hgb hnew'
      cases z with
      | true =>
        have hq := hide ((unhide hgd).2 (.inl rfl))
        clear hgd
        go_wp2
        go_roundw
        case rel => exact ⟨k + 1, by have := unhide HL; omega, by go_num, fun j hj => by
          by_cases e : j = k
          · rw [e]; exact unhide hq
          · exact unhide hno' j (by omega), unhide hg1'⟩
        case measure => simp [intOf]; omega
      | false =>
        have b4 := ((unhide hbox').on (unhide hg1')).eleven.2.2.2.2.1
        have b6 := ((unhide hbox').on (unhide hg1')).eleven.2.2.2.2.2.2.1
        have lB1 := Nat.lt_of_lt_of_le hlB (unhide hg1').size
        have lP1 := (unhide hn1).lt
        have cf0 := fun (x : World) (hx : w1.grownBy x none) => fits_any gC cC c (I k 0) (I k 1) (I k 2) (I k 3) x ((unhide hL0).on (grown_trans (unhide hg1') hx)).vec (unhide hc')
        have ca0 := fun (x : World) (hx : w1.grownBy x none) => goodsAt_any gI 40 cI I (I k 1) (I k 2) (I k 3) x ((unhide hL0).on (grown_trans (unhide hg1') hx)).its
        obtain ⟨f, hf⟩ : ∃ f, Gd.find I 40 (I k 1) (I k 2) (I k 3) = f := ⟨_, rfl⟩
        obtain ⟨V, hV⟩ : ∃ V, Gd.fitsB c (I k 0) (I k 1) (I k 2) (I k 3) = V := ⟨_, rfl⟩
        rw [hf] at ca0 hgd
        rw [hV] at cf0 hgd
        have ca0' := hide ca0
        have cf0' := hide cf0
        clear ca0 cf0 hf hV
        go_wp2_with fail
        refine wp_region_grown (by kernel_rfl) (by kernel_rfl) ?_
        intro St hN W hI hx
        have c0 : ∀ σ, (W σ).cell? ⟨P, 0, none⟩ = some (.int .i64 (I k 0)) := fun σ => (grown_cell (hI σ) _ 0 lP1 (by simp)).trans ((unhide hn1).cell (c := 0) (by simp))
        have c1 : ∀ σ, (W σ).cell? ⟨P, 1, none⟩ = some (.int .i64 (I k 1)) := fun σ => (grown_cell (hI σ) _ 1 lP1 (by simp)).trans ((unhide hn1).cell (c := 1) (by simp))
        have c2 : ∀ σ, (W σ).cell? ⟨P, 2, none⟩ = some (.int .i64 (I k 2)) := fun σ => (grown_cell (hI σ) _ 2 lP1 (by simp)).trans ((unhide hn1).cell (c := 2) (by simp))
        have c3 : ∀ σ, (W σ).cell? ⟨P, 3, none⟩ = some (.int .i64 (I k 3)) := fun σ => (grown_cell (hI σ) _ 3 lP1 (by simp)).trans ((unhide hn1).cell (c := 3) (by simp))
        have d4 : ∀ σ, (W σ).cell? ⟨B, 4, none⟩ = some (.slice (some ⟨gC, 0, none⟩) 384 cC) := fun σ => (grown_cell (hI σ) _ 4 lB1 (by simp)).trans b4
        have d6 : ∀ σ, (W σ).cell? ⟨B, 6, none⟩ = some (.slice (some ⟨gI, 0, none⟩) 40 cI) := fun σ => (grown_cell (hI σ) _ 6 lB1 (by simp)).trans b6
        have cf : ∀ σ, Calls Try.prog 48 #[.slice (some ⟨gC, 0, none⟩) 384 cC, .agg #[.int .i64 (I k 0), .int .i64 (I k 1), .int .i64 (I k 2), .int .i64 (I k 3)]] (W σ) fun e w'' => e = .returned (.bool V) ∧ ∃ σ', w'' = W σ' := fun σ => calls_class hI hx (unhide cf0' _ (hI σ))
        have cp : ∀ σ, Calls Try.prog 50 #[.agg #[.int .i64 (I k 0), .int .i64 (I k 1), .int .i64 (I k 2), .int .i64 (I k 3)]] (W σ) fun e w'' => e = .returned (.agg #[.int .i64 (I k 1), .int .i64 (I k 2), .int .i64 (I k 3)]) ∧ ∃ σ', w'' = W σ' := fun σ => calls_class hI hx (placeOf_any _ _ _ _ _)
        have ca : ∀ σ, Calls Try.prog 49 #[.slice (some ⟨gI, 0, none⟩) 40 cI, .agg #[.int .i64 (I k 1), .int .i64 (I k 2), .int .i64 (I k 3)]] (W σ) fun e w'' => e = .returned (.int .i64 f) ∧ ∃ σ', w'' = W σ' := fun σ => calls_class hI hx (unhide ca0' _ (hI σ))
        have hI2 := hide hI
        clear hI hx b4 b6 lB1 lP1 ca0' cf0' hn1
        cases V with
        | false =>
          repeat (go_big_quiet_step (first | (go_at_call 48; exact cf _) | (go_at_call 50; exact cp _) | (go_at_call 49; exact ca _)))
          refine wpQuiet_nil ?_
          rintro _ ⟨σ, rfl⟩
          obtain ⟨wq, hwq⟩ : ∃ wq, W σ = wq := ⟨_, rfl⟩
          have hgq := hide (grown_trans (unhide hg1') (unhide hI2 σ))
          rw [hwq] at hgq ⊢
          clear c0 c1 c2 c3 d4 d6 cf cp ca hI2 hwq
          clear σ W hN St
          have hnok := hide (show ¬ Gd.Ok c 40 I from fun h => by
            have hg := Gd.ok_good h (unhide HL)
            rw [unhide hgd] at hg
            simp at hg)
          have hfin := hide (grown_trans (unhide hg0') (unhide hgq))
          go_wp2
          go_ret
          exact ⟨false, rfl, ⟨(fun h => absurd h (by simp)), (fun h => absurd h (unhide hnok))⟩, unhide hfin⟩
        | true =>
          by_cases hfk : f = (k : Int)
          · subst hfk
            have hq := hide ((unhide hgd).2 (.inr ⟨rfl, rfl⟩))
            repeat (go_big_quiet_step (first | (go_at_call 48; exact cf _) | (go_at_call 50; exact cp _) | (go_at_call 49; exact ca _)))
            refine wpQuiet_nil ?_
            rintro _ ⟨σ, rfl⟩
            obtain ⟨wq, hwq⟩ : ∃ wq, W σ = wq := ⟨_, rfl⟩
            have hgq := hide (grown_trans (unhide hg1') (unhide hI2 σ))
            rw [hwq] at hgq ⊢
            clear c0 c1 c2 c3 d4 d6 cf cp ca hI2 hwq
            clear σ W hN St
            go_wp2
            go_roundw
            case rel => exact ⟨k + 1, by have := unhide HL; omega, by go_num, fun j hj => by
              by_cases e : j = k
              · rw [e]; exact unhide hq
              · exact unhide hno' j (by omega), unhide hgq⟩
            case measure => simp [intOf]; omega
          · have hfk' : (f == (k : Int)) = false := by simp [hfk]
            repeat (go_big_quiet_step (first | (go_at_call 48; exact cf _) | (go_at_call 50; exact cp _) | (go_at_call 49; exact ca _)))
            refine wpQuiet_nil ?_
            rintro _ ⟨σ, rfl⟩
            obtain ⟨wq, hwq⟩ : ∃ wq, W σ = wq := ⟨_, rfl⟩
            have hgq := hide (grown_trans (unhide hg1') (unhide hI2 σ))
            rw [hwq] at hgq ⊢
            clear c0 c1 c2 c3 d4 d6 cf cp ca hI2 hwq
            clear σ W hN St
            have hnok := hide (show ¬ Gd.Ok c 40 I from fun h => by
              have hg := Gd.ok_good h (unhide HL)
              rw [unhide hgd] at hg
              simp at hg; exact hfk hg)
            have hfin := hide (grown_trans (unhide hg0') (unhide hgq))
            go_wp2
            go_ret
            exact ⟨false, rfl, ⟨(fun h => absurd h (by simp)), (fun h => absurd h (unhide hnok))⟩, unhide hfin⟩
    · have hge : ¬ (k : Int) < 40 := by omega
      have he := hide (Gd.good_ok (fun j hj => unhide hno' j (by omega)))
      have hfin := hide (grown_trans (unhide hg0') (unhide hgr'))
      go_wp2
      go_ret
      exact ⟨true, rfl, ⟨fun _ => unhide he, fun _ => rfl⟩, unhide hfin⟩

end Go.Proofs.Ytgkomdpceilggaa

namespace Go.Proofs.Ytgkomdpceilggaa
open Go.RowKit

def Gd.text (c : Nat → Int) : ByteArray := strOfNums ((List.range 384).map c)

theorem Lie.text {w : World} {G cap : Nat} {c : Nat → Int} (h : Lie w G 5 384 (Byts c)) : (convert 25 9 (.slice (some ⟨G, 0, none⟩) 384 cap)).run Try.prog w = .ok (.string (Gd.text c)) w := by
  refine run_convert_bytes_arg w 25 5 Try.underlying25 Try.underlying5 G 0 384 cap ((List.range 384).map c) (by simp) (fun i hi => ?_) 9 Try.underlying9
  rw [Nat.zero_add, h.cell hi]
  show some (Value.int .u8 (c i)) = _
  simp [List.getD, List.getElem?_map, List.getElem?_range hi]

theorem run_eq_gold (a b c d : Int) (w : World) : (Op.equalIn 10000 27 (.agg #[.int .i64 a, .int .i64 b, .int .i64 c, .int .i64 d]) (.agg #[.int .i64 a, .int .i64 b, .int .i64 c, .int .i64 d])).run Try.prog w = .ok true w := by
  obtain ⟨i0, hi, _, _, _⟩ := info_parts info_int
  have hc : Try.prog.cellsOf 3 = 1 := by kernel_rfl
  have h := run_equalIn_array (P := Try.prog) (w := w) 9999 #[.int .i64 a, .int .i64 b, .int .i64 c, .int .i64 d] #[.int .i64 a, .int .i64 b, .int .i64 c, .int .i64 d] Try.underlying27 hi
  have hr : (Op.eqItems 9999 3 (Try.prog.cellsOf 3) #[Value.int .i64 a, .int .i64 b, .int .i64 c, .int .i64 d] #[.int .i64 a, .int .i64 b, .int .i64 c, .int .i64 d] (List.range 4)).run Try.prog w = .ok true w := by
    rw [hc]
    simp [List.range, List.range.loop, Op.eqItems, go_sem]
  rw [hr] at h
  exact h

set_option maxRecDepth 8000 in
set_option maxHeartbeats 6400000 in
theorem same7_any (s g c : Nat → Int) (E I : Nat → Nat → Int) (gC gE gI cC cE cI hC hE hI dC dE dI : Nat) (w : World) (hL : Gd.Lists w gC gE gI c E I) (hL2 : Gd.Lists w hC hE hI c E I) :
    Calls Try.prog 14 #[.agg (Gd.world s gC gE gI cC cE cI g), .agg (Gd.world s hC hE hI dC dE dI g)] w (Says w (.bool true)) := by
  obtain ⟨W, hW⟩ : ∃ W, W = (w.alloc (.cells (Gd.world s gC gE gI cC cE cI g) 29)).alloc (.cells (Gd.world s hC hE hI dC dE dI g) 29) := ⟨_, rfl⟩
  have hg : w.grownBy W none := by rw [hW]; exact grown_alloc (World.grownBy_alloc _ _ _) _
  have x1 : Lie W w.heap.size 29 11 (Gd.box s gC gE gI cC cE cI g) := by
    rw [hW]
    exact ((Arr.world (heap_alloc_new w _)).alloc _).lie
  have x2 : Lie W (w.heap.size + 1) 29 11 (Gd.box s hC hE hI dC dE dI g) := by
    rw [hW]
    have h := heap_alloc_new (w.alloc (.cells (Gd.world s gC gE gI cC cE cI g) 29)) (.cells (Gd.world s hC hE hI dC dE dI g) 29)
    rw [show (w.alloc (.cells (Gd.world s gC gE gI cC cE cI g) 29)).heap.size = w.heap.size + 1 by simp] at h
    exact (Arr.world h).lie
  obtain ⟨B, hB⟩ : ∃ B, w.heap.size = B := ⟨_, rfl⟩
  rw [hB] at x1 x2
  have x1' := hide x1
  have x2' := hide x2
  have hL' := hide (hL.on hg)
  have hL2' := hide (hL2.on hg)
  have hg' := hide hg
  have t1 := (unhide hL').cells.text (cap := cC)
  have t2 := (unhide hL2').cells.text (cap := dC)
  obtain ⟨T, hT⟩ : ∃ T, T = Gd.text c := ⟨_, rfl⟩
  rw [← hT] at t1 t2
  obtain ⟨a0, a1, a2, a3, a4, a5, a6, a7, a8, a9, a10⟩ := x1.eleven
  obtain ⟨b0, b1, b2, b3, b4, b5, b6, b7, b8, b9, b10⟩ := x2.eleven
  have keep : Hid (∀ x, W.grownBy x none → (x.cell? ⟨B, 5, none⟩ = some (.slice (some ⟨gE, 0, none⟩) 32 cE) ∧ x.cell? ⟨B, 6, none⟩ = some (.slice (some ⟨gI, 0, none⟩) 40 cI) ∧ x.cell? ⟨B + 1, 5, none⟩ = some (.slice (some ⟨hE, 0, none⟩) 32 dE) ∧ x.cell? ⟨B + 1, 6, none⟩ = some (.slice (some ⟨hI, 0, none⟩) 40 dI))) := fun x h =>
    ⟨((unhide x1').on h).eleven.2.2.2.2.2.1, ((unhide x1').on h).eleven.2.2.2.2.2.2.1, ((unhide x2').on h).eleven.2.2.2.2.2.1, ((unhide x2').on h).eleven.2.2.2.2.2.2.1⟩
  have hgold := fun wx => run_eq_gold (g 0) (g 1) (g 2) (g 3) wx
  clear hL hL2 hg hT x1 x2
  unfold Gd.world at hW ⊢
  go_enter Try.func14, Try.ntmps14
  go_upto_region 1 with fail
  rw [← hW]
  clear hW hB
  go_wp2_with fail
  go_loopw [5] (fun vi wr => ∃ k : Nat, k ≤ 32 ∧ vi = .int .i64 (k : Int) ∧ W.grownBy wr none) (fun vi _ => 200 - (intOf vi).toNat)
  case atStart => exact ⟨0, by omega, rfl, World.grownBy.refl _ _⟩
  case round =>
    clear hgold t1 t2 a0 a1 a2 a3 a4 a5 a6 a7 a8 a9 a10 b0 b1 b2 b3 b4 b5 b6 b7 b8 b9 b10
    obtain ⟨k, hk, rfl, hgr⟩ := hrel
    have hgr' := hide hgr
    obtain ⟨k1, k2, k3, k4⟩ := unhide keep wr hgr
    clear hgr
    by_cases hlt : k < 32
    · have hlt' : (k : Int) < 32 := by omega
      obtain ⟨u0, u1, u2, u3, u4, u5, u6, u7, u8, u9, u10⟩ := ((unhide hL').on (unhide hgr')).own.ents.row hlt
      obtain ⟨s0, s1, s2, s3, s4, s5, s6, s7, s8, s9, s10⟩ := ((unhide hL2').on (unhide hgr')).own.ents.row hlt
      have hdr : Hid (∀ m, W.grownBy (wr.drewN m) none) := fun m => grown_drew (unhide hgr') m
      have HL := hide hlt
      clear hlt
      go_wp2_with fail
      go_quiet (fail)
      go_wp2
      go_roundw
      case rel => exact ⟨k + 1, by have := unhide HL; omega, by go_num, unhide hdr _⟩
      case measure => simp [intOf]; omega
    · have hge : ¬ (k : Int) < 32 := by omega
      clear hlt
      go_wp2_with fail
      go_loopw [6] (fun vi wr => ∃ k : Nat, k ≤ 40 ∧ vi = .int .i64 (k : Int) ∧ W.grownBy wr none) (fun vi _ => 200 - (intOf vi).toNat)
      case atStart => exact ⟨0, by omega, rfl, unhide hgr'⟩
      case round =>
        clear k1 k2 k3 k4 hge hgr'
        obtain ⟨k, hk, rfl, hgr⟩ := hrel
        have hgr' := hide hgr
        obtain ⟨k1, k2, k3, k4⟩ := unhide keep wr hgr
        clear hgr
        by_cases hlt : k < 40
        · have hlt' : (k : Int) < 40 := by omega
          obtain ⟨u0, u1, u2, u3⟩ := ((unhide hL').on (unhide hgr')).its.row hlt
          obtain ⟨s0, s1, s2, s3⟩ := ((unhide hL2').on (unhide hgr')).its.row hlt
          have hdr : Hid (∀ m, W.grownBy (wr.drewN m) none) := fun m => grown_drew (unhide hgr') m
          have HL := hide hlt
          clear hlt
          go_wp2_with fail
          go_quiet (fail)
          go_wp2
          go_roundw
          case rel => exact ⟨k + 1, by have := unhide HL; omega, by go_num, unhide hdr _⟩
          case measure => simp [intOf]; omega
        · have hge : ¬ (k : Int) < 40 := by omega
          have hfin := hide (grown_trans (unhide hg') (unhide hgr'))
          go_wp2
          go_ret
          exact ⟨rfl, unhide hfin⟩

end Go.Proofs.Ytgkomdpceilggaa
