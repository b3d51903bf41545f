/-
  GoodsAll GoodsApart
-/
import Derived.Test.YtbanjoflgoiegaaGreatPart20
import Derived.Test.YtbanjoflgoiegaaGreatPart17
import Derived.Deep.RegionWith
import Derived.Deep.Cut
namespace Go.Proofs.YtbanjoflgoiegaaGreat
open Go.RowKit

structure Gd.Fine (c g : Nat → Int) (E I : Nat → Nat → Int) : Prop where
  cells : ∀ i, 0 ≤ c i ∧ c i ≤ 255
  gold : ∀ t, t < 4 → 0 ≤ g t ∧ g t ≤ 999
  hp : ∀ k, k < 32 → 0 ≤ E k 5 ∧ E k 5 ≤ 1000
  ok : Gd.Ok c 40 I

def Gd.goldOf (I : Nat → Nat → Int) (s X Y : Int) (shop : Bool) (G input : Int) : Int :=
  if input = 5 then (if 0 ≤ Gd.find I 40 1 X Y ∧ I (Gd.find I 40 1 X Y).toNat 0 = 4 then min (G + 5) 999 else G)
  else if input = 10 then (if Gd.buys I 40 s shop G = true then G - 5 else G) else G

def Gd.entsOf (E I : Nat → Nat → Int) (k : Nat) (s input : Int) : Nat → Nat → Int := if input = 6 ∧ 0 ≤ Gd.has I 40 s 1 1 then Gd.heal E k else E

theorem Gd.give_same (g : Nat → Int) (t : Nat) : Gd.give g t (g t) = g := by
  funext i
  unfold Gd.give
  split
  · rename_i h; rw [h]
  · rfl

theorem Gd.serves6 (I : Nat → Nat → Int) (s : Int) : Gd.car I 40 s (fun k => Gd.serves k 6) = Gd.has I 40 s 1 1 := by
  rw [Gd.has_car]
  refine Gd.car_congr fun k _ _ => ?_
  show (if (6 : Int) = 6 then decide (I k 0 = 1) else _) = _
  rw [if_pos rfl]
  by_cases h : I k 0 = 1
  · simp [h]
  · rw [decide_eq_false h]
    by_cases h1 : 1 ≤ I k 0
    · rw [decide_eq_false (show ¬ I k 0 ≤ 1 by omega), Bool.and_false]
    · rw [decide_eq_false h1, Bool.false_and]

theorem Gd.serves7 (I : Nat → Nat → Int) (s : Int) : Gd.car I 40 s (fun k => Gd.serves k 7) = Gd.has I 40 s 2 3 := by
  rw [Gd.has_car]
  refine Gd.car_congr fun k _ _ => ?_
  show (if (7 : Int) = 6 then _ else if (7 : Int) = 7 then decide (I k 0 = 2) || decide (I k 0 = 3) else true) = _
  rw [if_neg (by decide), if_pos rfl]
  by_cases h : I k 0 = 2 ∨ I k 0 = 3
  · rcases h with h | h <;> simp [h]
  · rw [decide_eq_false (show ¬ I k 0 = 2 by omega), decide_eq_false (show ¬ I k 0 = 3 by omega)]
    by_cases h1 : 2 ≤ I k 0
    · rw [decide_eq_false (show ¬ I k 0 ≤ 3 by omega), Bool.and_false]; rfl
    · rw [decide_eq_false h1, Bool.false_and]; rfl

theorem Gd.serves8 {c : Nat → Int} {I : Nat → Nat → Int} (h : Gd.Ok c 40 I) (s : Int) : Gd.car I 40 s (fun k => Gd.serves k 8) = Gd.has I 40 s 1 3 := by
  rw [Gd.has_car]
  refine Gd.car_congr fun k hk hw => ?_
  show (if (8 : Int) = 6 then _ else if (8 : Int) = 7 then _ else true) = _
  rw [if_neg (by decide), if_neg (by decide)]
  obtain ⟨h1, h2, h3⟩ := h.of hk (by omega)
  have : I k 0 ≤ 3 := by rcases h3 with h3 | h3 | h3 | h3 <;> omega
  rw [decide_eq_true h1, decide_eq_true this]
  rfl

theorem act_all (base : Nat → Prop) (B gC gE gI cC cE cI k t : Nat) (s g c : Nat → Int) (E I : Nat → Nat → Int) (input : Int) (x : World) (H : Gd.Hold x B gC gE gI cC cE cI s g c E I) (hk : k < 32) (ht : t < 4) (he : E k 2 = (t : Int)) (F : Gd.Fine c g E I) (hbB : ¬ base B) (hbE : ¬ base gE) (hbI : ¬ base gI) :
    Calls Tryz.prog 170 #[.pointer (some ⟨B, 0, none⟩), .pointer (some ⟨gE, k * 11, none⟩), .int .i64 input] x (Gd.Acted base x B gC gE gI cC cE cI s (Gd.give g t (Gd.goldOf I (t : Int) (E k 3) (E k 4) (decide (Gr.at 384 c (E k 3) (E k 4) = 5)) (g t) input)) c (Gd.entsOf E I k (t : Int) input) (Gd.act I 40 (t : Int) (E k 3) (E k 4) (decide (Gr.at 384 c (E k 3) (E k 4) = 5)) (g t) input)) := by
  obtain ⟨X, hX⟩ : ∃ X, E k 3 = X := ⟨_, rfl⟩
  obtain ⟨Y, hY⟩ : ∃ Y, E k 4 = Y := ⟨_, rfl⟩
  obtain ⟨sh, hsh⟩ : ∃ sh, decide (Gr.at 384 c (E k 3) (E k 4) = 5) = sh := ⟨_, rfl⟩
  have none := act_none base B gC gE gI cC cE cI k t s g c E I input x H hk ht he F.cells
  have g01 := F.gold t ht
  have gs := Gd.give_same g t
  by_cases h5 : input = 5
  · subst h5
    have e6 : Gd.entsOf E I k (t : Int) 5 = E := if_neg (by rintro ⟨h, _⟩; omega)
    have ew : ∀ sh, Gd.want I (t : Int) (E k 3) (E k 4) sh (g t) 5 = Gd.find I 40 1 (E k 3) (E k 4) := fun _ => if_pos rfl
    have ea : ∀ sh, Gd.act I 40 (t : Int) (E k 3) (E k 4) sh (g t) 5 = Gd.pick I 40 (t : Int) (E k 3) (E k 4) := fun _ => if_pos rfl
    have eg : ∀ sh, Gd.goldOf I (t : Int) (E k 3) (E k 4) sh (g t) 5 = (if 0 ≤ Gd.find I 40 1 (E k 3) (E k 4) ∧ I (Gd.find I 40 1 (E k 3) (E k 4)).toNat 0 = 4 then min (g t + 5) 999 else g t) := fun _ => if_pos rfl
    rw [ea, eg, e6]
    unfold Gd.pick
    by_cases hf : 0 ≤ Gd.find I 40 1 (E k 3) (E k 4)
    · obtain ⟨m, hm, em, m1, _⟩ := Gd.find_pos hf
      rw [em, Int.toNat_natCast]
      by_cases h4 : I m 0 = 4
      · rw [if_pos ⟨by omega, h4⟩, if_pos ⟨by omega, h4⟩]
        exact act_gold base B gC gE gI cC cE cI k t m s g c E I x H hk ht he F.cells hbI hm hbB h4 g01.1 g01.2 (by rw [ew, em])
      · rw [if_neg (fun h => h4 h.2), if_neg (fun h => h4 h.2), gs]
        by_cases hs : 0 ≤ Gd.slot I 40 (t : Int)
        · obtain ⟨f, hf'⟩ : ∃ f : Nat, Gd.slot I 40 (t : Int) = (f : Int) := ⟨(Gd.slot I 40 (t : Int)).toNat, by omega⟩
          rw [if_pos ⟨by omega, hs⟩, hf']
          have r := act_take base B gC gE gI cC cE cI k t m s g c E I x H hk ht he F.cells hbI hm hbB g01.1 g01.2 h4 m1 f hf' (by rw [ew, em])
          rwa [gs] at r
        · rw [if_neg (fun h => hs h.2)]
          exact act_take_full base B gC gE gI cC cE cI k t m s g c E I x H hk ht he F.cells hm h4 (by omega) (by rw [ew, em])
    · rw [if_neg (fun h => hf h.1), if_neg (fun h => hf h.1), if_neg (fun h => hf h.1), gs]
      exact none (by rw [ew]; omega)
  · by_cases h10 : input = 10
    · subst h10
      have e6 : Gd.entsOf E I k (t : Int) 10 = E := if_neg (by rintro ⟨h, _⟩; omega)
      have ew : ∀ sh : Bool, Gd.want I (t : Int) (E k 3) (E k 4) sh (g t) 10 = (if sh = true ∧ 5 ≤ g t then Gd.ware I 40 else -1) := fun _ => by
        unfold Gd.want
        rw [if_neg (by decide), if_pos rfl]
      have ea : ∀ sh, Gd.act I 40 (t : Int) (E k 3) (E k 4) sh (g t) 10 = Gd.buy I 40 (t : Int) sh (g t) := fun _ => by
        unfold Gd.act
        rw [if_neg (by decide), if_neg (by decide), if_neg (by decide), if_neg (by decide), if_pos rfl]
      have eg : ∀ sh, Gd.goldOf I (t : Int) (E k 3) (E k 4) sh (g t) 10 = (if Gd.buys I 40 (t : Int) sh (g t) = true then g t - 5 else g t) := fun _ => by
        unfold Gd.goldOf
        rw [if_neg (by decide), if_pos rfl]
      rw [ea, eg, e6, hsh]
      rw [hsh] at none
      unfold Gd.buy Gd.buys
      by_cases hsg : sh = true ∧ 5 ≤ g t
      · by_cases hwr : 0 ≤ Gd.ware I 40
        · obtain ⟨m, hm, em, m1⟩ := Gd.ware_pos hwr
          have ew' : Gd.want I (t : Int) (E k 3) (E k 4) (decide (Gr.at 384 c (E k 3) (E k 4) = 5)) (g t) 10 = (m : Int) := by rw [hsh, ew, if_pos hsg, em]
          by_cases hs : 0 ≤ Gd.slot I 40 (t : Int)
          · obtain ⟨f, hf'⟩ : ∃ f : Nat, Gd.slot I 40 (t : Int) = (f : Int) := ⟨(Gd.slot I 40 (t : Int)).toNat, by omega⟩
            have hbuy : (sh && (decide (5 ≤ g t) && (decide (0 ≤ Gd.slot I 40 (t : Int)) && decide (0 ≤ Gd.ware I 40)))) = true := by simp [hsg.1, hsg.2, hs, hwr]
            rw [if_pos hbuy, if_pos hbuy, em, Int.toNat_natCast, hf']
            exact act_buy base B gC gE gI cC cE cI k t m s g c E I x H hk ht he F.cells hbI hm hbB g01.1 g01.2 m1 f hf' ew'
          · have hbuy : ¬ (sh && (decide (5 ≤ g t) && (decide (0 ≤ Gd.slot I 40 (t : Int)) && decide (0 ≤ Gd.ware I 40)))) = true := by simp [hs]
            rw [if_neg hbuy, if_neg hbuy, gs]
            exact act_buy_full base B gC gE gI cC cE cI k t m s g c E I x H hk ht he F.cells hm (by omega) ew'
        · have hbuy : ¬ (sh && (decide (5 ≤ g t) && (decide (0 ≤ Gd.slot I 40 (t : Int)) && decide (0 ≤ Gd.ware I 40)))) = true := by simp [hwr]
          rw [if_neg hbuy, if_neg hbuy, gs]
          exact none (by rw [ew, if_pos hsg]; omega)
      · have hbuy : ¬ (sh && (decide (5 ≤ g t) && (decide (0 ≤ Gd.slot I 40 (t : Int)) && decide (0 ≤ Gd.ware I 40)))) = true := by
          intro h
          simp only [Bool.and_eq_true, decide_eq_true_eq] at h
          exact hsg ⟨h.1, h.2.1⟩
        rw [if_neg hbuy, if_neg hbuy, gs]
        exact none (by rw [ew, if_neg hsg]; omega)
    · have eg : ∀ sh, Gd.goldOf I (t : Int) (E k 3) (E k 4) sh (g t) input = g t := fun _ => by
        unfold Gd.goldOf
        rw [if_neg h5, if_neg h10]
      rw [eg, gs]
      by_cases h8 : input = 8
      · subst h8
        have e6 : Gd.entsOf E I k (t : Int) 8 = E := if_neg (by rintro ⟨h, _⟩; omega)
        have ew : ∀ sh : Bool, Gd.want I (t : Int) (E k 3) (E k 4) sh (g t) 8 = (if 0 ≤ Gd.find I 40 1 (E k 3) (E k 4) then -1 else Gd.has I 40 (t : Int) 1 3) := fun _ => by
          unfold Gd.want
          rw [if_neg (by decide), if_neg (by decide), if_pos rfl, Gd.serves8 F.ok]
        have ea : ∀ sh, Gd.act I 40 (t : Int) (E k 3) (E k 4) sh (g t) 8 = Gd.drop I 40 (t : Int) (E k 3) (E k 4) := fun _ => by
          unfold Gd.act
          rw [if_neg (by decide), if_neg (by decide), if_neg (by decide), if_pos rfl]
        rw [ea, e6]
        unfold Gd.drop
        by_cases hf : 0 ≤ Gd.find I 40 1 (E k 3) (E k 4)
        · rw [if_neg (fun h => by omega)]
          exact none (by rw [ew, if_pos hf]; omega)
        · by_cases hh : 0 ≤ Gd.has I 40 (t : Int) 1 3
          · obtain ⟨m, hm, em, _⟩ := Gd.has_pos hh
            rw [if_pos ⟨hh, by omega⟩, em, Int.toNat_natCast]
            exact act_drop base B gC gE gI cC cE cI k t m s g c E I x H hk ht he F.cells hbI hm (by rw [ew, if_neg hf, em])
          · rw [if_neg (fun h => hh h.1)]
            exact none (by rw [ew, if_neg hf]; omega)
      · by_cases h6 : input = 6
        · subst h6
          have ew : ∀ sh : Bool, Gd.want I (t : Int) (E k 3) (E k 4) sh (g t) 6 = Gd.has I 40 (t : Int) 1 1 := fun _ => by
            unfold Gd.want
            rw [if_neg (by decide), if_neg (by decide), if_neg (by decide), if_pos rfl, Gd.serves6]
          have ea : ∀ sh, Gd.act I 40 (t : Int) (E k 3) (E k 4) sh (g t) 6 = Gd.use I 40 (t : Int) := fun _ => by
            unfold Gd.act
            rw [if_neg (by decide), if_pos rfl]
          rw [ea]
          unfold Gd.use Gd.entsOf
          by_cases hh : 0 ≤ Gd.has I 40 (t : Int) 1 1
          · obtain ⟨m, hm, em, _⟩ := Gd.has_pos hh
            rw [if_pos hh, if_pos ⟨rfl, hh⟩, em, Int.toNat_natCast]
            exact act_use base B gC gE gI cC cE cI k t m s g c E I x H hk ht he F.cells hbE hbI (F.hp k hk).1 (F.hp k hk).2 hm (by rw [ew, em])
          · rw [if_neg hh, if_neg (fun h => hh h.2)]
            exact none (by rw [ew]; omega)
        · have e6 : Gd.entsOf E I k (t : Int) input = E := if_neg (fun h => h6 h.1)
          rw [e6]
          by_cases h7 : input = 7
          · subst h7
            have ew : ∀ sh : Bool, Gd.want I (t : Int) (E k 3) (E k 4) sh (g t) 7 = Gd.has I 40 (t : Int) 2 3 := fun _ => by
              unfold Gd.want
              rw [if_neg (by decide), if_neg (by decide), if_neg (by decide), if_neg (by decide), if_pos rfl, Gd.serves7]
            have ea : ∀ sh, Gd.act I 40 (t : Int) (E k 3) (E k 4) sh (g t) 7 = Gd.wear I 40 (t : Int) := fun _ => by
              unfold Gd.act
              rw [if_neg (by decide), if_neg (by decide), if_pos rfl]
            rw [ea]
            unfold Gd.wear
            by_cases hh : 0 ≤ Gd.has I 40 (t : Int) 2 3
            · obtain ⟨m, hm, em, m1, m2, _, _, l0, l1⟩ := Gd.has_pos hh
              rw [if_pos hh, em, Int.toNat_natCast]
              have r := act_wear base B gC gE gI cC cE cI k t m s g c E I x H hk ht he F.cells hbI hm (by omega) (by omega) m1 (by rw [ew, em])
              rwa [m2] at r
            · rw [if_neg hh]
              exact none (by rw [ew]; omega)
          · have ew : ∀ sh : Bool, Gd.want I (t : Int) (E k 3) (E k 4) sh (g t) input = -1 := fun _ => by
              unfold Gd.want
              rw [if_neg h5, if_neg h10, if_neg h8, if_neg h6, if_neg h7]
            have ea : ∀ sh, Gd.act I 40 (t : Int) (E k 3) (E k 4) sh (g t) input = I := fun _ => by
              unfold Gd.act
              rw [if_neg h5, if_neg h6, if_neg h7, if_neg h8, if_neg h10]
            rw [ea]
            exact none (by rw [ew]; omega)

end Go.Proofs.YtbanjoflgoiegaaGreat

namespace Go.Proofs.YtbanjoflgoiegaaGreat
open Go.RowKit

def Gd.Worlds (w : World) (s g c : Nat → Int) (E I : Nat → Nat → Int) (e : Ending) (w' : World) : Prop :=
  ∃ gC gE gI cC cE cI, e = .returned (.agg (Gd.world s gC gE gI cC cE cI g)) ∧ 32 ≤ cE ∧ w.heap.size ≤ gC ∧ w.heap.size ≤ gE ∧ w.heap.size ≤ gI ∧ gC ≠ gE ∧ gC ≠ gI ∧ gE ≠ gI ∧ Gd.Lists w' gC gE gI c E I ∧ w.grownBy w' none

def Gd.WorldsW (w : World) (s g c : Nat → Int) (E I : Nat → Nat → Int) (e : Ending) (w' : World) : Prop :=
  ∃ gC gE gI cC cE cI, e = .returned (.agg (Gd.world s gC gE gI cC cE cI g)) ∧ (32 ≤ cE ∧ 384 ≤ cC) ∧ w.heap.size ≤ gC ∧ w.heap.size ≤ gE ∧ w.heap.size ≤ gI ∧ gC ≠ gE ∧ gC ≠ gI ∧ gE ≠ gI ∧ Gd.Lists w' gC gE gI c E I ∧ w.grownBy w' none

theorem Gd.WorldsW.weak {w : World} {s g c : Nat → Int} {E I : Nat → Nat → Int} {e : Ending} {w' : World} (h : Gd.WorldsW w s g c E I e w') : Gd.Worlds w s g c E I e w' := by
  obtain ⟨gC, gE, gI, cC, cE, cI, h1, h2, h3⟩ := h
  exact ⟨gC, gE, gI, cC, cE, cI, h1, h2.1, h3⟩

theorem Gd.Lists.read {x : World} {gC gE gI : Nat} {c : Nat → Int} {E I : Nat → Nat → Int} (h : Gd.Lists x gC gE gI c E I) : (∀ j, j < 384 → x.cell? ⟨gC, j, none⟩ = some (Byts c j)) ∧ (∀ j, j < 352 → x.cell? ⟨gE, j, none⟩ = some (En.flat E j)) ∧ (∀ j, j < 160 → x.cell? ⟨gI, j, none⟩ = some (Gd.flat I j)) :=
  ⟨fun _ hj => h.cells.cell hj, fun _ hj => h.ents.cell hj, fun _ hj => h.items.cell hj⟩

theorem Lie.ne {x y : World} {g G : Nat} {T U : TypeId} {m M : Nat} {F K : Nat → Value} (h : Lie x g T m F) (h2 : x.heap.size ≤ G) (_ : Lie y G U M K) : g ≠ G := by
  have := h.lt
  omega

theorem Arr.lists {x : World} {B : Nat} {T : TypeId} {s g : Nat → Int} {gC gE gI cC cE cI g1 g2 g3 c1 c2 c3 : Nat} (h : Arr x B T 11 (Gd.box s gC gE gI cC cE cI g)) : Arr (((x.setCell ⟨B, 4, none⟩ (.slice (some ⟨g1, 0, none⟩) 384 c1)).setCell ⟨B, 5, none⟩ (.slice (some ⟨g2, 0, none⟩) 32 c2)).setCell ⟨B, 6, none⟩ (.slice (some ⟨g3, 0, none⟩) 40 c3)) B T 11 (Gd.box s g1 g2 g3 c1 c2 c3 g) := by
  refine (((h.store 4 (.slice (some ⟨g1, 0, none⟩) 384 c1)).store 5 (.slice (some ⟨g2, 0, none⟩) 32 c2)).store 6 (.slice (some ⟨g3, 0, none⟩) 40 c3)).congr fun j hj => ?_
  rcases (show j = 0 ∨ j = 1 ∨ j = 2 ∨ j = 3 ∨ j = 4 ∨ j = 5 ∨ j = 6 ∨ j = 7 ∨ j = 8 ∨ j = 9 ∨ j = 10 by omega) with rfl | rfl | rfl | rfl | rfl | rfl | rfl | rfl | rfl | rfl | rfl <;> rfl

theorem set3_root (x : World) (B : Nat) (v1 v2 v3 : Value) : x.grownBy (((x.setCell ⟨B, 4, none⟩ v1).setCell ⟨B, 5, none⟩ v2).setCell ⟨B, 6, none⟩ v3) (some B) := grown_set (grown_set (grown_set (World.grownBy.refl _ _) _ _) _ _) _ _

theorem set3_grown {w x : World} (h : w.grownBy x none) {B : Nat} (hB : w.heap.size ≤ B) (v1 v2 v3 : Value) : w.grownBy (((x.setCell ⟨B, 4, none⟩ v1).setCell ⟨B, 5, none⟩ v2).setCell ⟨B, 6, none⟩ v3) none :=
  grown_store (grown_store (grown_store h ⟨B, 4, none⟩ hB v1) ⟨B, 5, none⟩ hB v2) ⟨B, 6, none⟩ hB v3

theorem Lie.eleven {x : World} {B : Nat} {T : TypeId} {s g : Nat → Int} {gC gE gI cC cE cI : Nat} (h : Lie x B T 11 (Gd.box s gC gE gI cC cE cI g)) :
    x.cell? ⟨B, 0, none⟩ = some (.int .i64 (s 0)) ∧ x.cell? ⟨B, 1, none⟩ = some (.int .i64 (s 1)) ∧ x.cell? ⟨B, 2, none⟩ = some (.int .i64 (s 2)) ∧ x.cell? ⟨B, 3, none⟩ = some (.int .i64 (s 3)) ∧ x.cell? ⟨B, 4, none⟩ = some (.slice (some ⟨gC, 0, none⟩) 384 cC) ∧ x.cell? ⟨B, 5, none⟩ = some (.slice (some ⟨gE, 0, none⟩) 32 cE) ∧ x.cell? ⟨B, 6, none⟩ = some (.slice (some ⟨gI, 0, none⟩) 40 cI) ∧ x.cell? ⟨B, 7, none⟩ = some (.int .i64 (g 0)) ∧ x.cell? ⟨B, 8, none⟩ = some (.int .i64 (g 1)) ∧ x.cell? ⟨B, 9, none⟩ = some (.int .i64 (g 2)) ∧ x.cell? ⟨B, 10, none⟩ = some (.int .i64 (g 3)) :=
  ⟨h.cell (by omega), h.cell (by omega), h.cell (by omega), h.cell (by omega), h.cell (by omega), h.cell (by omega), h.cell (by omega), h.cell (by omega), h.cell (by omega), h.cell (by omega), h.cell (by omega)⟩

theorem Gd.apart_hold {w w0 y0 w1 w2 w3 : World} {B g1 g2 g3 gC gE gI cC cE cI : Nat} {s g c : Nat → Int} {E I : Nat → Nat → Int} {Z : Nat → Value} (hbox : Arr w0 B 30 11 (Gd.box s gC gE gI cC cE cI g)) (hres : Arr w0 (B + 1) 30 11 Z) (hg0 : w.grownBy w0 none) (hB : w.heap.size = B) (hd : w0.grownBy y0 none)
    (l1 : y0.heap.size ≤ g1) (a1 : Lie w1 g1 5 384 (Byts c)) (n1 : y0.grownBy w1 none) (l2 : w1.heap.size ≤ g2) (a2 : Lie w2 g2 54 352 (En.flat E)) (n2 : w1.grownBy w2 none) (l3 : w2.heap.size ≤ g3) (a3 : Lie w3 g3 62 160 (Gd.flat I)) (n3 : w2.grownBy w3 none) :
    Gd.Hold (((w3.setCell ⟨B, 4, none⟩ (.slice (some ⟨g1, 0, none⟩) 384 384)).setCell ⟨B, 5, none⟩ (.slice (some ⟨g2, 0, none⟩) 32 32)).setCell ⟨B, 6, none⟩ (.slice (some ⟨g3, 0, none⟩) 40 40)) B g1 g2 g3 384 32 40 s g c E I ∧ B + 2 ≤ g1 ∧ B + 2 ≤ g2 ∧ B + 2 ≤ g3 ∧ Arr (((w3.setCell ⟨B, 4, none⟩ (.slice (some ⟨g1, 0, none⟩) 384 384)).setCell ⟨B, 5, none⟩ (.slice (some ⟨g2, 0, none⟩) 32 32)).setCell ⟨B, 6, none⟩ (.slice (some ⟨g3, 0, none⟩) 40 40)) (B + 1) 30 11 Z ∧ w.grownBy (((w3.setCell ⟨B, 4, none⟩ (.slice (some ⟨g1, 0, none⟩) 384 384)).setCell ⟨B, 5, none⟩ (.slice (some ⟨g2, 0, none⟩) 32 32)).setCell ⟨B, 6, none⟩ (.slice (some ⟨g3, 0, none⟩) 40 40)) none := by
  have n03 := grown_trans hd (grown_trans n1 (grown_trans n2 n3))
  have i0 := hg0.size
  have i1 := hd.size
  have i2 := hres.lt
  have i3 := n1.size
  have i4 := n2.size
  have j1 := a1.lt
  have j2 := a2.lt
  have j3 := a3.lt
  have r := set3_root w3 B (.slice (some ⟨g1, 0, none⟩) 384 384) (.slice (some ⟨g2, 0, none⟩) 32 32) (.slice (some ⟨g3, 0, none⟩) 40 40)
  refine ⟨⟨(Arr.lists (hbox.grown n03 (by simp))).lie, ⟨((a1.on n2).on n3).grown r (by simp; omega), (a2.on n3).grown r (by simp; omega), a3.grown r (by simp; omega)⟩, by omega, by omega, by omega, by omega, by omega, by omega⟩, by omega, by omega, by omega, (hres.grown n03 (by simp)).grown r (by simp), set3_grown (grown_trans hg0 n03) (by omega) _ _ _⟩

set_option maxHeartbeats 3200000 in
theorem apart_wide (s g c : Nat → Int) (E I : Nat → Nat → Int) (gC gE gI cC cE cI : Nat) (w : World) (hL : Gd.Lists w gC gE gI c E I) :
    Calls Tryz.prog 168 #[.agg (Gd.world s gC gE gI cC cE cI g)] w (Gd.WorldsW w s g c E I) := by
  have hL' := hide hL
  have hbox := (Arr.world (heap_alloc_new w (.cells (Gd.world s gC gE gI cC cE cI g) 30))).alloc (.cells #[.int .i64 0, .int .i64 0, .int .i64 0, .int .i64 0, .slice none 0 0, .slice none 0 0, .slice none 0 0, .int .i64 0, .int .i64 0, .int .i64 0, .int .i64 0] 30)
  unfold Gd.world at hbox ⊢
  have hres := Arr.lit (heap_alloc_new (w.alloc (.cells #[.int .i64 (s 0), .int .i64 (s 1), .int .i64 (s 2), .int .i64 (s 3), .slice (some ⟨gC, 0, none⟩) 384 cC, .slice (some ⟨gE, 0, none⟩) 32 cE, .slice (some ⟨gI, 0, none⟩) 40 cI, .int .i64 (g 0), .int .i64 (g 1), .int .i64 (g 2), .int .i64 (g 3)] 30)) (.cells #[.int .i64 0, .int .i64 0, .int .i64 0, .int .i64 0, .slice none 0 0, .slice none 0 0, .slice none 0 0, .int .i64 0, .int .i64 0, .int .i64 0, .int .i64 0] 30))
  have hg0 : w.grownBy ((w.alloc (.cells #[.int .i64 (s 0), .int .i64 (s 1), .int .i64 (s 2), .int .i64 (s 3), .slice (some ⟨gC, 0, none⟩) 384 cC, .slice (some ⟨gE, 0, none⟩) 32 cE, .slice (some ⟨gI, 0, none⟩) 40 cI, .int .i64 (g 0), .int .i64 (g 1), .int .i64 (g 2), .int .i64 (g 3)] 30)).alloc (.cells #[.int .i64 0, .int .i64 0, .int .i64 0, .int .i64 0, .slice none 0 0, .slice none 0 0, .slice none 0 0, .int .i64 0, .int .i64 0, .int .i64 0, .int .i64 0] 30)) none := grown_alloc (World.grownBy_alloc _ _ _) _
  rw [show (w.alloc (.cells #[.int .i64 (s 0), .int .i64 (s 1), .int .i64 (s 2), .int .i64 (s 3), .slice (some ⟨gC, 0, none⟩) 384 cC, .slice (some ⟨gE, 0, none⟩) 32 cE, .slice (some ⟨gI, 0, none⟩) 40 cI, .int .i64 (g 0), .int .i64 (g 1), .int .i64 (g 2), .int .i64 (g 3)] 30)).heap.size = w.heap.size + 1 by simp] at hres
  clear hL
  go_enter Tryz.func168, Tryz.ntmps168
  go_upto_region 1 with fail
  obtain ⟨w0, hw0⟩ : ∃ w0, (w.alloc (.cells #[.int .i64 (s 0), .int .i64 (s 1), .int .i64 (s 2), .int .i64 (s 3), .slice (some ⟨gC, 0, none⟩) 384 cC, .slice (some ⟨gE, 0, none⟩) 32 cE, .slice (some ⟨gI, 0, none⟩) 40 cI, .int .i64 (g 0), .int .i64 (g 1), .int .i64 (g 2), .int .i64 (g 3)] 30)).alloc (.cells #[.int .i64 0, .int .i64 0, .int .i64 0, .int .i64 0, .slice none 0 0, .slice none 0 0, .slice none 0 0, .int .i64 0, .int .i64 0, .int .i64 0, .int .i64 0] 30) = w0 := ⟨_, rfl⟩
  rw [hw0] at hbox hres hg0 ⊢
  obtain ⟨B, hB⟩ : ∃ B, w.heap.size = B := ⟨_, rfl⟩
  rw [hB] at hbox hres ⊢
  have hbox' := hide hbox
  have hres' := hide hres
  have hg0' := hide hg0
  have hB' := hide hB
  have keep : Hid (∀ y, Hid (w0.grownBy y none) → (y.cell? ⟨B, 4, none⟩ = some (.slice (some ⟨gC, 0, none⟩) 384 cC) ∧ y.cell? ⟨B, 5, none⟩ = some (.slice (some ⟨gE, 0, none⟩) 32 cE) ∧ y.cell? ⟨B, 6, none⟩ = some (.slice (some ⟨gI, 0, none⟩) 40 cI)) ∧ y.frozen? ⟨B, 4, none⟩ = false ∧ y.frozen? ⟨B, 5, none⟩ = false ∧ y.frozen? ⟨B, 6, none⟩ = false) := fun y hy => by
    have h := (unhide hbox').grown (unhide hy) (by simp)
    exact ⟨⟨h.cell (i := 4) (by omega), h.cell (i := 5) (by omega), h.cell (i := 6) (by omega)⟩, h.free 4, h.free 5, h.free 6⟩
  have hd : Hid (w0.grownBy w0.drew none) := grown_drew1 (World.grownBy.refl _ _)
  have rd : Hid (∀ y, Hid (w0.grownBy y none) → Gd.Lists y gC gE gI c E I) := fun y hy => (unhide hL').on (grown_trans (unhide hg0') (unhide hy))
  have c1 : Hid (∀ y, Hid (w0.grownBy y none) → Calls Tryz.prog 178 #[.slice (some ⟨gC, 0, none⟩) 384 cC] y fun e w' => ∃ g1, e = .returned (.slice (some ⟨g1, 0, none⟩) 384 384) ∧ Hid (y.heap.size ≤ g1) ∧ Hid (Lie w' g1 5 384 (Byts c)) ∧ Hid (y.grownBy w' none) ∧ Hid (w0.grownBy w' none)) := fun y hy =>
    (twinBytes_any gC 384 384 cC (Byts c) y (by omega) (by omega) (fun _ => rfl) (unhide rd y hy).read.1 (unhide rd y hy).cells.lt).mono fun e w' ⟨g1, h1, h2, h3, h4⟩ => ⟨g1, h1, h2, h3.lie, h4, grown_trans (unhide hy) h4⟩
  have c2 : Hid (∀ y, Hid (w0.grownBy y none) → Calls Tryz.prog 179 #[.slice (some ⟨gE, 0, none⟩) 32 cE] y fun e w' => ∃ g1, e = .returned (.slice (some ⟨g1, 0, none⟩) 32 32) ∧ Hid (y.heap.size ≤ g1) ∧ Hid (Lie w' g1 54 352 (En.flat E)) ∧ Hid (y.grownBy w' none) ∧ Hid (w0.grownBy w' none)) := fun y hy =>
    (twinEnts_any gE 32 352 cE (En.flat E) y (by omega) (by omega) (fun _ => rfl) (unhide rd y hy).read.2.1 (unhide rd y hy).ents.lt).mono fun e w' ⟨g1, h1, h2, h3, h4⟩ => ⟨g1, h1, h2, h3.lie, h4, grown_trans (unhide hy) h4⟩
  have c3 : Hid (∀ y, Hid (w0.grownBy y none) → Calls Tryz.prog 106 #[.slice (some ⟨gI, 0, none⟩) 40 cI] y fun e w' => ∃ g1, e = .returned (.slice (some ⟨g1, 0, none⟩) 40 40) ∧ Hid (y.heap.size ≤ g1) ∧ Hid (Lie w' g1 62 160 (Gd.flat I)) ∧ Hid (y.grownBy w' none) ∧ Hid (w0.grownBy w' none)) := fun y hy =>
    (twinItems_any gI 40 160 cI (Gd.flat I) y (by omega) (by omega) (fun _ => rfl) (unhide rd y hy).read.2.2 (unhide rd y hy).items.lt).mono fun e w' ⟨g1, h1, h2, h3, h4⟩ => ⟨g1, h1, h2, h3.lie, h4, grown_trans (unhide hy) h4⟩
  obtain ⟨⟨q4, q5, q6⟩, r4, r5, r6⟩ := unhide keep w0 (World.grownBy.refl _ _)
  clear hbox hres hg0 hw0 hB
  go_cut [] from 3 (fun wx => ∃ g1 g2 g3, Hid (Gd.Hold wx B g1 g2 g3 384 32 40 s g c E I ∧ B + 2 ≤ g1 ∧ B + 2 ≤ g2 ∧ B + 2 ≤ g3 ∧ Arr wx (B + 1) 30 11 (fun j => #[.int .i64 0, .int .i64 0, .int .i64 0, .int .i64 0, .slice none 0 0, .slice none 0 0, .slice none 0 0, .int .i64 0, .int .i64 0, .int .i64 0, Value.int .i64 0][j]?.getD undef) ∧ w.grownBy wx none))
  case first =>
    go_region_with (first | (go_at_call 178; refine (unhide c1 _ hd).mono ?_; rintro e w1 ⟨g1, rfl, l1, a1, n1, n01⟩; obtain ⟨⟨z4, z5, z6⟩, f4, f5, f6⟩ := unhide keep w1 n01) | (go_at_call 179; refine (unhide c2 _ n01).mono ?_; rintro e w2 ⟨g2, rfl, l2, a2, n2, n02⟩; obtain ⟨⟨z4, z5, z6⟩, f4, f5, f6⟩ := unhide keep w2 n02) | (go_at_call 106; refine (unhide c3 _ n02).mono ?_; rintro e w3 ⟨g3, rfl, l3, a3, n3, n03⟩; obtain ⟨⟨z4, z5, z6⟩, f4, f5, f6⟩ := unhide keep w3 n03))
    all_goals
      go_wp2_with fail
      go_meet
      exact ⟨g1, g2, g3, Gd.apart_hold (unhide hbox') (unhide hres') (unhide hg0') (unhide hB') (unhide hd) (unhide l1) (unhide a1) (unhide n1) (unhide l2) (unhide a2) (unhide n2) (unhide l3) (unhide a3) (unhide n3)⟩
  case rest =>
    obtain ⟨g1, g2, g3, hr⟩ := hcut
    clear keep hd rd c1 c2 c3 q4 q5 q6 r4 r5 r6 hbox' hres' hg0' hL'
    obtain ⟨b0, b1, b2, b3, b4, b5, b6, b7, b8, b9, b10⟩ := (unhide hr).1.box.eleven
    have fz := (unhide hr).2.2.2.2.1.free
    have zc := fun j (hj : j < 11) => (unhide hr).2.2.2.2.1.cell (i := j) hj
    have z0 := zc 0 (by omega)
    have z1 := zc 1 (by omega)
    have z2 := zc 2 (by omega)
    have z3 := zc 3 (by omega)
    have z4 := zc 4 (by omega)
    have z5 := zc 5 (by omega)
    have z6 := zc 6 (by omega)
    have z7 := zc 7 (by omega)
    have z8 := zc 8 (by omega)
    have z9 := zc 9 (by omega)
    have z10 := zc 10 (by omega)
    simp only [List.getElem?_toArray, List.getElem?_cons_zero, List.getElem?_cons_succ, Option.getD_some] at z0 z1 z2 z3 z4 z5 z6 z7 z8 z9 z10
    have hfin : Hid (∀ vs : List Value, Gd.Lists (wc.setCells (B + 1) 0 vs) g1 g2 g3 c E I ∧ w.grownBy (wc.setCells (B + 1) 0 vs) none) := fun vs => by
      obtain ⟨hH, h1, h2, h3, hA, hg⟩ := unhide hr
      have hB := unhide hB'
      have r := grown_sets (g := B + 1) vs 0 wc (World.grownBy.refl _ _)
      exact ⟨⟨hH.lists.cells.grown r (by simp; omega), hH.lists.ents.grown r (by simp; omega), hH.lists.items.grown r (by simp; omega)⟩, own_sets (by omega) vs 0 wc hg⟩
    clear zc
    go_wp2
    refine bodyPost_ret (v := .agg (Gd.world s g1 g2 g3 384 32 40 g)) (by simp [results, Tryz.results168, go_sem, Gd.world, z0, z1, z2, z3, z4, z5, z6, z7, z8, z9, z10]) rfl ?_
    obtain ⟨hH, h1, h2, h3, _, _⟩ := unhide hr
    have hB := unhide hB'
    exact ⟨g1, g2, g3, 384, 32, 40, rfl, ⟨Nat.le_refl _, Nat.le_refl _⟩, by omega, by omega, by omega, hH.cE, hH.cI, hH.eI, (unhide hfin [_, _, _, _, _, _, _, _, _, _, _]).1, (unhide hfin [_, _, _, _, _, _, _, _, _, _, _]).2⟩

end Go.Proofs.YtbanjoflgoiegaaGreat
