/-
  What a hero does with items, in goods: all inputs.
-/
import Derived.Test.YthngbjmiblbohaaGoodsTake
namespace Go.Proofs.Ythngbjmiblbohaa
open Go.RowKit

/-- A world's numbers are within their bounds. -/
structure Gd.Fine (c g : Nat → Int) (E I : Nat → Nat → Int) : Prop where
  cells : ∀ i, 0 ≤ c i ∧ c i ≤ 255
  gold : ∀ t, t < 4 → 0 ≤ g t ∧ g t ≤ 999
  hp : ∀ k, k < 32 → 0 ≤ E k 5 ∧ E k 5 ≤ 1000
  ok : Gd.Ok c 40 I

/-- The gold of the seat behind an input. -/
def Gd.goldOf (I : Nat → Nat → Int) (s X Y : Int) (shop : Bool) (G input : Int) : Int :=
  if input = 5 then (if 0 ≤ Gd.find I 40 1 X Y ∧ I (Gd.find I 40 1 X Y).toNat 0 = 4 then min (G + 5) 999 else G)
  else if input = 10 then (if Gd.buys I 40 s shop G = true then G - 5 else G) else G

/-- The entities behind an input. -/
def Gd.entsOf (E I : Nat → Nat → Int) (k : Nat) (s input : Int) : Nat → Nat → Int := if input = 6 ∧ 0 ≤ Gd.has I 40 s 1 1 then Gd.heal E k else E

theorem Gd.give_same (g : Nat → Int) (t : Nat) : Gd.give g t (g t) = g := by
  funext i
  unfold Gd.give
  split
  · rename_i h; rw [h]
  · rfl

theorem Gd.serves6 (I : Nat → Nat → Int) (s : Int) : Gd.car I 40 s (fun k => Gd.serves k 6) = Gd.has I 40 s 1 1 := by
  rw [Gd.has_car]
  refine Gd.car_congr fun k _ _ => ?_
  show (if (6 : Int) = 6 then decide (I k 0 = 1) else _) = _
  rw [if_pos rfl]
  by_cases h : I k 0 = 1
  · simp [h]
  · rw [decide_eq_false h]
    by_cases h1 : 1 ≤ I k 0
    · rw [decide_eq_false (show ¬ I k 0 ≤ 1 by omega), Bool.and_false]
    · rw [decide_eq_false h1, Bool.false_and]

theorem Gd.serves7 (I : Nat → Nat → Int) (s : Int) : Gd.car I 40 s (fun k => Gd.serves k 7) = Gd.has I 40 s 2 3 := by
  rw [Gd.has_car]
  refine Gd.car_congr fun k _ _ => ?_
  show (if (7 : Int) = 6 then _ else if (7 : Int) = 7 then decide (I k 0 = 2) || decide (I k 0 = 3) else true) = _
  rw [if_neg (by decide), if_pos rfl]
  by_cases h : I k 0 = 2 ∨ I k 0 = 3
  · rcases h with h | h <;> simp [h]
  · rw [decide_eq_false (show ¬ I k 0 = 2 by omega), decide_eq_false (show ¬ I k 0 = 3 by omega)]
    by_cases h1 : 2 ≤ I k 0
    · rw [decide_eq_false (show ¬ I k 0 ≤ 3 by omega), Bool.and_false]; rfl
    · rw [decide_eq_false h1, Bool.false_and]; rfl

theorem Gd.serves8 {c : Nat → Int} {I : Nat → Nat → Int} (h : Gd.Ok c 40 I) (s : Int) : Gd.car I 40 s (fun k => Gd.serves k 8) = Gd.has I 40 s 1 3 := by
  rw [Gd.has_car]
  refine Gd.car_congr fun k hk hw => ?_
  show (if (8 : Int) = 6 then _ else if (8 : Int) = 7 then _ else true) = _
  rw [if_neg (by decide), if_neg (by decide)]
  obtain ⟨h1, h2, h3⟩ := h.of hk (by omega)
  have : I k 0 ≤ 3 := by rcases h3 with h3 | h3 | h3 | h3 <;> omega
  rw [decide_eq_true h1, decide_eq_true this]
  rfl

theorem Gd.Hold.eq {x : World} {B gC gE gI cC cE cI : Nat} {s g c : Nat → Int} {E I : Nat → Nat → Int} {g' : Nat → Int} {E' I' : Nat → Nat → Int} (h : Gd.Hold x B gC gE gI cC cE cI s g c E I) (h1 : g = g') (h2 : E = E') (h3 : I = I') : Gd.Hold x B gC gE gI cC cE cI s g' c E' I' := by
  subst h1; subst h2; subst h3; exact h

theorem act_all (base : Nat → Prop) (B gC gE gI cC cE cI k t : Nat) (s g c : Nat → Int) (E I : Nat → Nat → Int) (input : Int) (x : World) (H : Gd.Hold x B gC gE gI cC cE cI s g c E I) (hk : k < 32) (ht : t < 4) (he : E k 2 = (t : Int)) (F : Gd.Fine c g E I) (hbB : ¬ base B) (hbE : ¬ base gE) (hbI : ¬ base gI) :
    Calls Try.prog 33 #[.pointer (some ⟨B, 0, none⟩), .pointer (some ⟨gE, k * 11, none⟩), .int .i64 input] x (Gd.Acted base x B gC gE gI cC cE cI s (Gd.give g t (Gd.goldOf I (t : Int) (E k 3) (E k 4) (decide (Gr.at 384 c (E k 3) (E k 4) = 5)) (g t) input)) c (Gd.entsOf E I k (t : Int) input) (Gd.act I 40 (t : Int) (E k 3) (E k 4) (decide (Gr.at 384 c (E k 3) (E k 4) = 5)) (g t) input)) := by
  obtain ⟨X, hX⟩ : ∃ X, E k 3 = X := ⟨_, rfl⟩
  obtain ⟨Y, hY⟩ : ∃ Y, E k 4 = Y := ⟨_, rfl⟩
  obtain ⟨sh, hsh⟩ : ∃ sh, decide (Gr.at 384 c (E k 3) (E k 4) = 5) = sh := ⟨_, rfl⟩
  have none := act_none base B gC gE gI cC cE cI k t s g c E I input x H hk ht he F.cells
  have g01 := F.gold t ht
  have gs := Gd.give_same g t
  by_cases h5 : input = 5
  · subst h5
    have e6 : Gd.entsOf E I k (t : Int) 5 = E := if_neg (by rintro ⟨h, _⟩; omega)
    have ew : ∀ sh, Gd.want I (t : Int) (E k 3) (E k 4) sh (g t) 5 = Gd.find I 40 1 (E k 3) (E k 4) := fun _ => if_pos rfl
    have ea : ∀ sh, Gd.act I 40 (t : Int) (E k 3) (E k 4) sh (g t) 5 = Gd.pick I 40 (t : Int) (E k 3) (E k 4) := fun _ => if_pos rfl
    have eg : ∀ sh, Gd.goldOf I (t : Int) (E k 3) (E k 4) sh (g t) 5 = (if 0 ≤ Gd.find I 40 1 (E k 3) (E k 4) ∧ I (Gd.find I 40 1 (E k 3) (E k 4)).toNat 0 = 4 then min (g t + 5) 999 else g t) := fun _ => if_pos rfl
    rw [ea, eg, e6]
    unfold Gd.pick
    by_cases hf : 0 ≤ Gd.find I 40 1 (E k 3) (E k 4)
    · obtain ⟨m, hm, em, m1, _⟩ := Gd.find_pos hf
      rw [em, Int.toNat_natCast]
      by_cases h4 : I m 0 = 4
      · rw [if_pos ⟨by omega, h4⟩, if_pos ⟨by omega, h4⟩]
        exact act_gold base B gC gE gI cC cE cI k t m s g c E I x H hk ht he F.cells hbI hm hbB h4 g01.1 g01.2 (by rw [ew, em])
      · rw [if_neg (fun h => h4 h.2), if_neg (fun h => h4 h.2), gs]
        by_cases hs : 0 ≤ Gd.slot I 40 (t : Int)
        · obtain ⟨f, hf'⟩ : ∃ f : Nat, Gd.slot I 40 (t : Int) = (f : Int) := ⟨(Gd.slot I 40 (t : Int)).toNat, by omega⟩
          rw [if_pos ⟨by omega, hs⟩, hf']
          have r := act_take base B gC gE gI cC cE cI k t m s g c E I x H hk ht he F.cells hbI hm hbB g01.1 g01.2 h4 m1 f hf' (by rw [ew, em])
          rwa [gs] at r
        · rw [if_neg (fun h => hs h.2)]
          exact act_take_full base B gC gE gI cC cE cI k t m s g c E I x H hk ht he F.cells hm h4 (by omega) (by rw [ew, em])
    · rw [if_neg (fun h => hf h.1), if_neg (fun h => hf h.1), if_neg (fun h => hf h.1), gs]
      exact none (by rw [ew]; omega)
  · by_cases h10 : input = 10
    · subst h10
      have e6 : Gd.entsOf E I k (t : Int) 10 = E := if_neg (by rintro ⟨h, _⟩; omega)
      have ew : ∀ sh : Bool, Gd.want I (t : Int) (E k 3) (E k 4) sh (g t) 10 = (if sh = true ∧ 5 ≤ g t then Gd.ware I 40 else -1) := fun _ => by
        unfold Gd.want
        rw [if_neg (by decide), if_pos rfl]
      have ea : ∀ sh, Gd.act I 40 (t : Int) (E k 3) (E k 4) sh (g t) 10 = Gd.buy I 40 (t : Int) sh (g t) := fun _ => by
        unfold Gd.act
        rw [if_neg (by decide), if_neg (by decide), if_neg (by decide), if_neg (by decide), if_pos rfl]
      have eg : ∀ sh, Gd.goldOf I (t : Int) (E k 3) (E k 4) sh (g t) 10 = (if Gd.buys I 40 (t : Int) sh (g t) = true then g t - 5 else g t) := fun _ => by
        unfold Gd.goldOf
        rw [if_neg (by decide), if_pos rfl]
      rw [ea, eg, e6, hsh]
      rw [hsh] at none
      unfold Gd.buy Gd.buys
      by_cases hsg : sh = true ∧ 5 ≤ g t
      · by_cases hwr : 0 ≤ Gd.ware I 40
        · obtain ⟨m, hm, em, m1⟩ := Gd.ware_pos hwr
          have ew' : Gd.want I (t : Int) (E k 3) (E k 4) (decide (Gr.at 384 c (E k 3) (E k 4) = 5)) (g t) 10 = (m : Int) := by rw [hsh, ew, if_pos hsg, em]
          by_cases hs : 0 ≤ Gd.slot I 40 (t : Int)
          · obtain ⟨f, hf'⟩ : ∃ f : Nat, Gd.slot I 40 (t : Int) = (f : Int) := ⟨(Gd.slot I 40 (t : Int)).toNat, by omega⟩
            have hbuy : (sh && (decide (5 ≤ g t) && (decide (0 ≤ Gd.slot I 40 (t : Int)) && decide (0 ≤ Gd.ware I 40)))) = true := by simp [hsg.1, hsg.2, hs, hwr]
            rw [if_pos hbuy, if_pos hbuy, em, Int.toNat_natCast, hf']
            exact act_buy base B gC gE gI cC cE cI k t m s g c E I x H hk ht he F.cells hbI hm hbB g01.1 g01.2 m1 f hf' ew'
          · have hbuy : ¬ (sh && (decide (5 ≤ g t) && (decide (0 ≤ Gd.slot I 40 (t : Int)) && decide (0 ≤ Gd.ware I 40)))) = true := by simp [hs]
            rw [if_neg hbuy, if_neg hbuy, gs]
            exact act_buy_full base B gC gE gI cC cE cI k t m s g c E I x H hk ht he F.cells hm (by omega) ew'
        · have hbuy : ¬ (sh && (decide (5 ≤ g t) && (decide (0 ≤ Gd.slot I 40 (t : Int)) && decide (0 ≤ Gd.ware I 40)))) = true := by simp [hwr]
          rw [if_neg hbuy, if_neg hbuy, gs]
          exact none (by rw [ew, if_pos hsg]; omega)
      · have hbuy : ¬ (sh && (decide (5 ≤ g t) && (decide (0 ≤ Gd.slot I 40 (t : Int)) && decide (0 ≤ Gd.ware I 40)))) = true := by
          intro h
          simp only [Bool.and_eq_true, decide_eq_true_eq] at h
          exact hsg ⟨h.1, h.2.1⟩
        rw [if_neg hbuy, if_neg hbuy, gs]
        exact none (by rw [ew, if_neg hsg]; omega)
    · have eg : ∀ sh, Gd.goldOf I (t : Int) (E k 3) (E k 4) sh (g t) input = g t := fun _ => by
        unfold Gd.goldOf
        rw [if_neg h5, if_neg h10]
      rw [eg, gs]
      by_cases h8 : input = 8
      · subst h8
        have e6 : Gd.entsOf E I k (t : Int) 8 = E := if_neg (by rintro ⟨h, _⟩; omega)
        have ew : ∀ sh : Bool, Gd.want I (t : Int) (E k 3) (E k 4) sh (g t) 8 = (if 0 ≤ Gd.find I 40 1 (E k 3) (E k 4) then -1 else Gd.has I 40 (t : Int) 1 3) := fun _ => by
          unfold Gd.want
          rw [if_neg (by decide), if_neg (by decide), if_pos rfl, Gd.serves8 F.ok]
        have ea : ∀ sh, Gd.act I 40 (t : Int) (E k 3) (E k 4) sh (g t) 8 = Gd.drop I 40 (t : Int) (E k 3) (E k 4) := fun _ => by
          unfold Gd.act
          rw [if_neg (by decide), if_neg (by decide), if_neg (by decide), if_pos rfl]
        rw [ea, e6]
        unfold Gd.drop
        by_cases hf : 0 ≤ Gd.find I 40 1 (E k 3) (E k 4)
        · rw [if_neg (fun h => by omega)]
          exact none (by rw [ew, if_pos hf]; omega)
        · by_cases hh : 0 ≤ Gd.has I 40 (t : Int) 1 3
          · obtain ⟨m, hm, em, _⟩ := Gd.has_pos hh
            rw [if_pos ⟨hh, by omega⟩, em, Int.toNat_natCast]
            exact act_drop base B gC gE gI cC cE cI k t m s g c E I x H hk ht he F.cells hbI hm (by rw [ew, if_neg hf, em])
          · rw [if_neg (fun h => hh h.1)]
            exact none (by rw [ew, if_neg hf]; omega)
      · by_cases h6 : input = 6
        · subst h6
          have ew : ∀ sh : Bool, Gd.want I (t : Int) (E k 3) (E k 4) sh (g t) 6 = Gd.has I 40 (t : Int) 1 1 := fun _ => by
            unfold Gd.want
            rw [if_neg (by decide), if_neg (by decide), if_neg (by decide), if_pos rfl, Gd.serves6]
          have ea : ∀ sh, Gd.act I 40 (t : Int) (E k 3) (E k 4) sh (g t) 6 = Gd.use I 40 (t : Int) := fun _ => by
            unfold Gd.act
            rw [if_neg (by decide), if_pos rfl]
          rw [ea]
          unfold Gd.use Gd.entsOf
          by_cases hh : 0 ≤ Gd.has I 40 (t : Int) 1 1
          · obtain ⟨m, hm, em, _⟩ := Gd.has_pos hh
            rw [if_pos hh, if_pos ⟨rfl, hh⟩, em, Int.toNat_natCast]
            exact act_use base B gC gE gI cC cE cI k t m s g c E I x H hk ht he F.cells hbE hbI (F.hp k hk).1 (F.hp k hk).2 hm (by rw [ew, em])
          · rw [if_neg hh, if_neg (fun h => hh h.2)]
            exact none (by rw [ew]; omega)
        · have e6 : Gd.entsOf E I k (t : Int) input = E := if_neg (fun h => h6 h.1)
          rw [e6]
          by_cases h7 : input = 7
          · subst h7
            have ew : ∀ sh : Bool, Gd.want I (t : Int) (E k 3) (E k 4) sh (g t) 7 = Gd.has I 40 (t : Int) 2 3 := fun _ => by
              unfold Gd.want
              rw [if_neg (by decide), if_neg (by decide), if_neg (by decide), if_neg (by decide), if_pos rfl, Gd.serves7]
            have ea : ∀ sh, Gd.act I 40 (t : Int) (E k 3) (E k 4) sh (g t) 7 = Gd.wear I 40 (t : Int) := fun _ => by
              unfold Gd.act
              rw [if_neg (by decide), if_neg (by decide), if_pos rfl]
            rw [ea]
            unfold Gd.wear
            by_cases hh : 0 ≤ Gd.has I 40 (t : Int) 2 3
            · obtain ⟨m, hm, em, m1, m2, _, _, l0, l1⟩ := Gd.has_pos hh
              rw [if_pos hh, em, Int.toNat_natCast]
              have r := act_wear base B gC gE gI cC cE cI k t m s g c E I x H hk ht he F.cells hbI hm (by omega) (by omega) m1 (by rw [ew, em])
              rwa [m2] at r
            · rw [if_neg hh]
              exact none (by rw [ew]; omega)
          · have ew : ∀ sh : Bool, Gd.want I (t : Int) (E k 3) (E k 4) sh (g t) input = -1 := fun _ => by
              unfold Gd.want
              rw [if_neg h5, if_neg h10, if_neg h8, if_neg h6, if_neg h7]
            have ea : ∀ sh, Gd.act I 40 (t : Int) (E k 3) (E k 4) sh (g t) input = I := fun _ => by
              unfold Gd.act
              rw [if_neg h5, if_neg h6, if_neg h7, if_neg h8, if_neg h10]
            rw [ea]
            exact none (by rw [ew]; omega)

end Go.Proofs.Ythngbjmiblbohaa
