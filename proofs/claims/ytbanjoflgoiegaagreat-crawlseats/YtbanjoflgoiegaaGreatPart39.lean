/-
  CrawlBring CrawlCome MindsFoe
-/
import Derived.Test.YtbanjoflgoiegaaGreatPart33
import Derived.Test.YtbanjoflgoiegaaGreatPart38
import Derived.Test.YtbanjoflgoiegaaGreatPart17
import Derived.Test.YtbanjoflgoiegaaGreatPart32
import Derived.BigQuiet
import Derived.Deep.Cut
import Derived.Deep.CutRange
import Derived.Deep.CutBlock
import Derived.Deep.RegionHeld3
import Derived.Test.YtbanjoflgoiegaaGreatPart36
import Derived.Test.YtbanjoflgoiegaaGreatPart23
namespace Go.Proofs.YtbanjoflgoiegaaGreat
open Go.RowKit

theorem Cr.more_one (w : World) (o : Nat → Int) (ho : 1 ≤ o 0 ∧ o 0 ≤ 4) : Cr.More (w.alloc (.cells (En.cells o) 54)) (some ⟨w.heap.size, 0, none⟩) 1 [o] := by
  refine ⟨rfl, by omega, fun i e he => ?_⟩
  have hi : i = 0 := by
    have := (List.getElem?_eq_some_iff.1 he).1
    simp at this
    omega
  subst hi
  obtain rfl : o = e := by simpa using he
  have hl := Lie.copied w o 54
  exact ⟨ho, w.heap.size, rfl, hl.lt, fun j hj => by rw [Nat.zero_mul, Nat.zero_add]; exact hl.cell hj⟩

theorem Cr.join_one {E : Nat → Nat → Int} {o : Nat → Int} (h : En.first (En.atQ E (o 3) (o 4)) 32 < 0) : Cr.joinAll E [o] = Cr.join E o := if_pos h

def Cr.Brings (v : World) (P : Nat) (how inp : Nat → Int) (sp : Nat → Bool) (met left : Bool) (s g c : Nat → Int) (E I : Nat → Nat → Int) (t : Nat) (e : Ending) (x : World) : Prop :=
  ∃ F, Cr.Comes c (t : Int) true E F ∧ Cr.Goes v P how inp sp met left s g c F I e x

set_option maxRecDepth 8000 in
set_option maxHeartbeats 6400000 in
theorem cBring_any (v x : World) (P gC gE gI cC cE cI : Nat) (how inp : Nat → Int) (sp : Nat → Bool) (met left : Bool) (s g c : Nat → Int) (E I : Nat → Nat → Int) (t : Nat) (h : Cr.Frm v x P gC gE gI cC cE cI how inp sp met left s g c E I) (hS : Cr.Sane c E I) (hF : Nv.Floor c) (hno : Gd.hero E (t : Int) < 0) :
    Calls Tryz.prog 69 #[.pointer (some ⟨P, 0, none⟩), .int .i64 (t : Int)] x (Cr.Brings v P how inp sp met left s g c E I t) := by
  have hh := hide h
  have hgens := hide hS.good.gens
  have hkeep : Hid (∀ z, x.grownBy z none → z.cell? ⟨P, 4, none⟩ = some (.slice (some ⟨gC, 0, none⟩) 384 cC) ∧ z.cell? ⟨P, 5, none⟩ = some (.slice (some ⟨gE, 0, none⟩) 32 cE)) := fun z hz => ⟨((unhide hh).on hz).eleven.2.2.2.2.1, ((unhide hh).on hz).eleven.2.2.2.2.2.1⟩
  have hch : Hid (∀ z, x.grownBy z none → Calls Tryz.prog 104 #[.slice (some ⟨gC, 0, none⟩) 384 cC, .slice (some ⟨gE, 0, none⟩) 32 cE] z fun e y => ∃ q, e = .returned (.int .i64 q) ∧ Hid (Nv.IsSpot c E 32 (Gr.find 384 c 3 % 24) (Gr.find 384 c 3 / 24) q) ∧ Hid (x.grownBy y none)) := fun z hz => (cArrival_any (some ⟨gC, 0, none⟩) (some ⟨gE, 0, none⟩) cC 32 cE c E z ((unhide hh).on hz).lists.vec hF h.cap.2 ⟨by omega, h.cap.1, .inr ⟨gE, rfl, ((unhide hh).on hz).lists.own.ents⟩⟩ hS.good.words).mono fun e y ⟨q, h1, h2, h3⟩ => ⟨q, h2, h1, grown_trans hz h3⟩
  have hdef : Hid (∀ q F e w', Nv.IsSpot c E 32 (Gr.find 384 c 3 % 24) (Gr.find 384 c 3 / 24) q → ((q < 0 ∧ F = E) ∨ ∃ p : Nat, q = (p : Int) ∧ F = Cr.join E (Cr.one 1 (t : Int) p)) → Cr.Goes v P how inp sp met left s g c F I e w' → Cr.Brings v P how inp sp met left s g c E I t e w') := fun q F e w' h1 h2 h3 => ⟨F, (show Cr.Comes c (t : Int) true E F by unfold Cr.Comes; rw [if_pos ⟨rfl, hno⟩]; exact ⟨q, h1, h2⟩), h3⟩
  clear h hS hF hno
  go_enter Tryz.func69, Tryz.ntmps69
  go_upto_region 0 with fail
  go_cut [4] from 6 (fun v4 wx => ∃ q, v4 = .int .i64 q ∧ Hid (Nv.IsSpot c E 32 (Gr.find 384 c 3 % 24) (Gr.find 384 c 3 / 24) q) ∧ Hid (x.grownBy wx none))
  case first =>
    have hd0 := hide (grown_drew1 (World.grownBy.refl x none))
    have hS0 := unhide hkeep _ (unhide hd0)
    go_region_held3 (fun z => z.cell? ⟨P, 4, none⟩ = some (.slice (some ⟨gC, 0, none⟩) 384 cC) ∧ z.cell? ⟨P, 5, none⟩ = some (.slice (some ⟨gE, 0, none⟩) 32 cE)) (with_reducible (first | exact unhide hkeep _ (unhide hd0) | exact unhide hkeep _ (unhide hg1))) (first
      | (go_at_call 104; with_reducible refine (unhide hch _ (unhide hd0)).mono ?_; rintro e0 w1 ⟨q, rfl, hq, hg1⟩))
    all_goals (go_wp2_with fail; go_meet)
    exact ⟨q, rfl, hq, hg1⟩
  case rest =>
    clear hkeep hch
    obtain ⟨q, rfl, hq, hg⟩ := hcut
    have hF1 := hide ((unhide hh).on (unhide hg))
    clear hh hg
    by_cases hneg : q < 0
    · have hfin : Hid (Cr.Brings v P how inp sp met left s g c E I t (.returned (.tuple #[])) wc) := unhide hdef q E _ _ (unhide hq) (.inl ⟨hneg, rfl⟩) ⟨rfl, gC, gE, gI, cC, cE, cI, unhide hF1⟩
      clear hdef
      go_wp2
      go_end0
      exact unhide hfin
    · obtain ⟨p, rfl⟩ : ∃ p : Nat, q = (p : Int) := ⟨q.toNat, by omega⟩
      have hroom := hide (Cr.spot_room (unhide hq))
      have hp := hide (unhide hroom).1
      have hdef2 : Hid (∀ e w', Cr.Goes v P how inp sp met left s g c (Cr.join E (Cr.one 1 (t : Int) p)) I e w' → Cr.Brings v P how inp sp met left s g c E I t e w') := fun e w' h => unhide hdef (p : Int) _ e w' (unhide hq) (.inr ⟨p, rfl, rfl⟩) h
      have hone : Hid (Cr.one 1 (t : Int) p = En.upd (En.upd (En.upd (En.stats 1) 2 (t : Int)) 3 ((p : Int) % 24)) 4 ((p : Int) / 24)) := rfl
      have ho1 : Hid (1 ≤ Cr.one 1 (t : Int) p 0 ∧ Cr.one 1 (t : Int) p 0 ≤ 4) := (show 1 ≤ Cr.one 1 (t : Int) p 0 ∧ Cr.one 1 (t : Int) p 0 ≤ 4 by rw [(Cr.one_at 1 (t : Int) p).1 (by omega) (by omega)]; omega)
      have hjo : Hid (Cr.joinAll E [Cr.one 1 (t : Int) p] = Cr.join E (Cr.one 1 (t : Int) p)) := Cr.join_one (by rw [(Cr.one_at 1 (t : Int) p).2.2.1, (Cr.one_at 1 (t : Int) p).2.2.2.1]; exact (unhide hroom).2.2)
      obtain ⟨o, ho⟩ : ∃ o, Cr.one 1 (t : Int) p = o := ⟨_, rfl⟩
      rw [ho] at hdef2 hone ho1 hjo
      have cst := hide (entStats_any 1 wc)
      obtain ⟨st, hst⟩ : ∃ st, En.stats 1 = st := ⟨_, rfl⟩
      rw [hst] at cst hone
      have hnn : ¬ (p : Int) < 0 := by omega
      clear hdef hq hroom hneg ho hst
      unfold En.cells at cst
      go_wp2_with fail
      refine (unhide cst).mono ?_
      rintro e0 w1 ⟨rfl, hg1⟩
      have hF2 := hide ((unhide hF1).on hg1)
      obtain ⟨w2, hw2⟩ : ∃ w2, w2 = w1.alloc (.cells (En.cells st) 54) := ⟨_, rfl⟩
      have hg2 : w1.grownBy w2 none := by rw [hw2]; exact World.grownBy_alloc _ _ _
      have hQ : Hid (Lie w2 w1.heap.size 54 11 (Ints st)) := by rw [hw2]; exact Lie.copied _ _ _
      have hF3 := hide ((unhide hF2).on hg2)
      have lQ : Hid (v.heap.size ≤ w1.heap.size) := (unhide hF2).grown.size
      have nQE : Hid (w1.heap.size ≠ gC ∧ w1.heap.size ≠ gE ∧ w1.heap.size ≠ gI) := ⟨by have := (unhide hF2).lists.cells.lt; omega, by have := (unhide hF2).lists.ents.lt; omega, by have := (unhide hF2).lists.items.lt; omega⟩
      clear hg1 hg2 cst hF1 hF2
      unfold En.cells at hw2
      go_upto_region 3 with fail
      rw [← hw2]
      clear hw2
      obtain ⟨Q, hQe⟩ : ∃ Q, w1.heap.size = Q := ⟨_, rfl⟩
      rw [hQe] at hQ lQ nQE ⊢
      clear hQe
      have fQ := (unhide hQ).free
      have q2 := (unhide hQ).ent.2.2.1
      have hQ3 : Hid (Lie (w2.setCell ⟨Q, 2, none⟩ (.int .i64 (t : Int))) Q 54 11 (Ints (En.upd st 2 (t : Int)))) := ((unhide hQ).store 2 (.int .i64 (t : Int))).congr fun j _ => by
        show (if j = 2 then Value.int .i64 (t : Int) else .int .i64 (st j)) = .int .i64 (if j = 2 then (t : Int) else st j)
        split <;> rfl
      have hF4 : Hid (Cr.Frm v (w2.setCell ⟨Q, 2, none⟩ (.int .i64 (t : Int))) P gC gE gI cC cE cI how inp sp met left s g c E I) := (unhide hF3).aside (unhide lQ) (unhide hQ) (by decide) (unhide nQE) 2 _
      clear hF3 hQ
      go_upto_region 4 with fail
      generalize w2.setCell ⟨Q, 2, none⟩ (.int .i64 (t : Int)) = w3 at hQ3 hF4 ⊢
      clear fQ q2
      have hF3 := hF4
      clear hF4
      obtain ⟨e, he⟩ : ∃ e, En.upd st 2 (t : Int) = e := ⟨_, rfl⟩
      rw [he] at hQ3 hone
      clear he
      have hkeep : Hid (∀ x, w3.grownBy x none → x.cell? ⟨P, 5, none⟩ = some (.slice (some ⟨gE, 0, none⟩) 32 cE) ∧ x.cell? ⟨Q, 0, none⟩ = some (.int .i64 (e 0)) ∧ x.cell? ⟨Q, 1, none⟩ = some (.int .i64 (e 1)) ∧ x.cell? ⟨Q, 2, none⟩ = some (.int .i64 (e 2)) ∧ x.cell? ⟨Q, 3, none⟩ = some (.int .i64 (e 3)) ∧ x.cell? ⟨Q, 4, none⟩ = some (.int .i64 (e 4)) ∧ x.cell? ⟨Q, 5, none⟩ = some (.int .i64 (e 5)) ∧ x.cell? ⟨Q, 6, none⟩ = some (.int .i64 (e 6)) ∧ x.cell? ⟨Q, 7, none⟩ = some (.int .i64 (e 7)) ∧ x.cell? ⟨Q, 8, none⟩ = some (.int .i64 (e 8)) ∧ x.cell? ⟨Q, 9, none⟩ = some (.int .i64 (e 9)) ∧ x.cell? ⟨Q, 10, none⟩ = some (.int .i64 (e 10))) := fun x hx => ⟨((unhide hF3).on hx).eleven.2.2.2.2.2.1, ((unhide hQ3).on hx).ent⟩
      have cp : Hid (∀ z, w3.grownBy z none → Calls Tryz.prog 79 #[.agg #[.int .i64 (e 0), .int .i64 (e 1), .int .i64 (e 2), .int .i64 (e 3), .int .i64 (e 4), .int .i64 (e 5), .int .i64 (e 6), .int .i64 (e 7), .int .i64 (e 8), .int .i64 (e 9), .int .i64 (e 10)], .int .i64 (p : Int)] z (Says z (.agg #[.int .i64 (o 0), .int .i64 (o 1), .int .i64 (o 2), .int .i64 (o 3), .int .i64 (o 4), .int .i64 (o 5), .int .i64 (o 6), .int .i64 (o 7), .int .i64 (o 8), .int .i64 (o 9), .int .i64 (o 10)]))) := fun z _ => (show Calls Tryz.prog 79 #[.agg (En.cells e), .int .i64 (p : Int)] z (Says z (.agg (En.cells o))) by rw [unhide hone]; exact cPlaced_any e p (unhide hp) z)
      have cj : Hid (∀ z, w3.grownBy z none → ∀ a : Option Addr, Cr.More z a 1 [o] → Calls Tryz.prog 54 #[.slice (some ⟨gE, 0, none⟩) 32 cE, .slice a 1 1] z (Cr.OneOf z gE (Cr.join E o))) := fun z hz a hM => (show Calls Tryz.prog 54 #[.slice (some ⟨gE, 0, none⟩) 32 cE, .slice a 1 1] z (Cr.OneOf z gE (Cr.join E o)) by rw [← unhide hjo]; exact cJoined_any gE cE 1 1 a E [o] z ((unhide hF3).on hz).lists.own (unhide hF3).cap.1 (unhide hgens) hM)
      have hd3 := hide (grown_drew1 (World.grownBy.refl w3 none))
      clear hone hjo hgens hp
      refine wp_region_till (h := 14) (S := fun x => x.cell? ⟨P, 5, none⟩ = some (.slice (some ⟨gE, 0, none⟩) 32 cE) ∧ x.cell? ⟨Q, 0, none⟩ = some (.int .i64 (e 0)) ∧ x.cell? ⟨Q, 1, none⟩ = some (.int .i64 (e 1)) ∧ x.cell? ⟨Q, 2, none⟩ = some (.int .i64 (e 2)) ∧ x.cell? ⟨Q, 3, none⟩ = some (.int .i64 (e 3)) ∧ x.cell? ⟨Q, 4, none⟩ = some (.int .i64 (e 4)) ∧ x.cell? ⟨Q, 5, none⟩ = some (.int .i64 (e 5)) ∧ x.cell? ⟨Q, 6, none⟩ = some (.int .i64 (e 6)) ∧ x.cell? ⟨Q, 7, none⟩ = some (.int .i64 (e 7)) ∧ x.cell? ⟨Q, 8, none⟩ = some (.int .i64 (e 8)) ∧ x.cell? ⟨Q, 9, none⟩ = some (.int .i64 (e 9)) ∧ x.cell? ⟨Q, 10, none⟩ = some (.int .i64 (e 10))) (by kernel_rfl) ?_
      have hS0 := unhide hkeep _ (unhide hd3)
      refine wpTill_take (i := 0) (v := ?_) [14] rfl (by kernel_rfl) (by kernel_rfl) (by kernel_rfl) (by kernel_rfl) (fun _ _ _ h => h) hS0 (Or.inl ⟨by rfl, ?_⟩) ?_
      rotate_left
      · intro x hSx
        try dsimp only at hSx
        go_simp
        try with_reducible rfl
      simp only [Act.put]
      refine wpTill_take (i := 1) (v := ?_) [14] rfl (by kernel_rfl) (by kernel_rfl) (by kernel_rfl) (by kernel_rfl) (fun _ _ _ h => h) hS0 (Or.inl ⟨by rfl, ?_⟩) ?_
      rotate_left
      · intro x hSx
        try dsimp only at hSx
        go_simp
        try with_reducible rfl
      simp only [Act.put]
      refine wpTill_take (i := 2) (v := ?_) [14] rfl (by kernel_rfl) (by kernel_rfl) (by kernel_rfl) (by kernel_rfl) (fun _ _ _ h => h) hS0 (Or.inl ⟨by rfl, ?_⟩) ?_
      rotate_left
      · intro x hSx
        try dsimp only at hSx
        go_simp
        try with_reducible rfl
      simp only [Act.put]
      refine wpTill_take (i := 3) (v := ?_) [14] rfl (by kernel_rfl) (by kernel_rfl) (by kernel_rfl) (by kernel_rfl) (fun _ _ _ h => h) hS0 (Or.inl ⟨by rfl, ?_⟩) ?_
      rotate_left
      · intro x hSx
        try dsimp only at hSx
        go_simp
        try with_reducible rfl
      simp only [Act.put]
      refine wpTill_take (i := 4) (v := ?_) [14] rfl (by kernel_rfl) (by kernel_rfl) (by kernel_rfl) (by kernel_rfl) (fun _ _ _ h => h) hS0 (Or.inl ⟨by rfl, ?_⟩) ?_
      rotate_left
      · intro x hSx
        try dsimp only at hSx
        go_simp
        try with_reducible rfl
      simp only [Act.put]
      refine wpTill_take (i := 5) (v := ?_) [14] rfl (by kernel_rfl) (by kernel_rfl) (by kernel_rfl) (by kernel_rfl) (fun _ _ _ h => h) hS0 (Or.inl ⟨by rfl, ?_⟩) ?_
      rotate_left
      · intro x hSx
        try dsimp only at hSx
        go_simp
        try with_reducible rfl
      simp only [Act.put]
      refine wpTill_take (i := 6) (v := ?_) [14] rfl (by kernel_rfl) (by kernel_rfl) (by kernel_rfl) (by kernel_rfl) (fun _ _ _ h => h) hS0 (Or.inl ⟨by rfl, ?_⟩) ?_
      rotate_left
      · intro x hSx
        try dsimp only at hSx
        go_simp
        try with_reducible rfl
      simp only [Act.put]
      refine wpTill_take (i := 7) (v := ?_) [14] rfl (by kernel_rfl) (by kernel_rfl) (by kernel_rfl) (by kernel_rfl) (fun _ _ _ h => h) hS0 (Or.inl ⟨by rfl, ?_⟩) ?_
      rotate_left
      · intro x hSx
        try dsimp only at hSx
        go_simp
        try with_reducible rfl
      simp only [Act.put]
      refine wpTill_only (j := 8) (by kernel_rfl) rfl (fun K hK => ?_)
      go_simp
      refine (unhide cp _ (unhide hd3)).mono ?_
      rintro e0 w4 ⟨rfl, hg4⟩
      have hG4 := hide (grown_trans (unhide hd3) hg4)
      have hS4 := unhide hkeep _ (unhide hG4)
      clear hg4
      try go_simp
      refine hK.out _ _ (fun _ => unhide hkeep _ (unhide hG4)) ?_
      clear hK K
      refine wpTill_only (j := 9) (by kernel_rfl) rfl (fun K hK => ?_)
      go_simp
      have hG5 : Hid (w3.grownBy (w4.alloc (.cells #[.int .i64 (o 0), .int .i64 (o 1), .int .i64 (o 2), .int .i64 (o 3), .int .i64 (o 4), .int .i64 (o 5), .int .i64 (o 6), .int .i64 (o 7), .int .i64 (o 8), .int .i64 (o 9), .int .i64 (o 10)] 54)) none) := grown_alloc (unhide hG4) _
      have hS5 := unhide hkeep _ (unhide hG5)
      have hM := hide (Cr.more_one w4 o (unhide ho1))
      clear hS4
      try go_simp
      refine hK.out _ _ (fun _ => unhide hkeep _ (unhide hG5)) ?_
      clear hK K
      refine wpTill_only (j := 10) (by kernel_rfl) rfl (fun K hK => ?_)
      go_simp
      refine (unhide cj _ (unhide hG5) _ (unhide hM)).mono ?_
      rintro e0 w6 ⟨j6, d6, rfl, hc6, hj6, hown6, hg6⟩
      have hG6 := hide (grown_trans (unhide hG5) hg6)
      have hS6 := unhide hkeep _ (unhide hG6)
      have hst := hide ((unhide hF3).folk hc6 (hj6.imp id (fun h => Nat.le_trans (unhide hG5).size h)) hown6 (unhide hG6))
      have f5 := ((unhide hF3).on (unhide hG6)).box.free
      clear hc6 hj6 hown6 hg6 hS5
      try go_simp
      refine hK.out _ _ (fun _ => unhide hkeep _ (unhide hG6)) ?_
      clear hK K
      refine wpTill_take (i := 11) (v := ?_) [12, 13, 14] rfl (by kernel_rfl) (by kernel_rfl) (by kernel_rfl) (by kernel_rfl) (fun _ _ _ h => h) hS6 (Or.inl ⟨by rfl, ?_⟩) ?_
      rotate_left
      · intro x hSx
        try dsimp only at hSx
        go_simp
        try with_reducible rfl
      simp only [Act.put]
      refine wpTill_take (i := 12) (v := ?_) [13, 14] rfl (by kernel_rfl) (by kernel_rfl) (by kernel_rfl) (by kernel_rfl) (fun _ _ _ h => h) hS6 (Or.inl ⟨by rfl, ?_⟩) ?_
      rotate_left
      · intro x hSx
        try dsimp only at hSx
        go_simp
        try with_reducible rfl
      simp only [Act.put]
      refine wpTill_take (i := 13) (v := ?_) [14] rfl (by kernel_rfl) (by kernel_rfl) (by kernel_rfl) (by kernel_rfl) (fun _ _ _ h => h) hS6 (Or.inl ⟨by rfl, ?_⟩) ?_
      rotate_left
      · intro x hSx
        try dsimp only at hSx
        go_simp
        try with_reducible rfl
      simp only [Act.put]
      refine wpTill_only (j := 14) (by kernel_rfl) rfl (fun K hK => ?_)
      go_simp
      refine hK.out _ _ (fun hx => absurd (hx.symm.trans (by kernel_rfl)) Bool.false_ne_true) ?_
      clear hK K
      refine wpTill_done (by kernel_rfl) ?_ _
      clear hkeep cp cj hS6 hG4 hG5 hG6 hM
      go_wp2
      go_end0
      exact unhide hdef2 _ _ ⟨rfl, gC, j6, gI, cC, d6, cI, unhide hst⟩

end Go.Proofs.YtbanjoflgoiegaaGreat

namespace Go.Proofs.YtbanjoflgoiegaaGreat
open Go.RowKit

theorem Cr.run_act (how inp : Nat → Int) (sp : Nat → Bool) {t : Nat} (ht : t < 4) (w : World) : (Instr.index 36 (.agg #[.int .i64 (how 0), .int .i64 (inp 0), .bool (sp 0), .int .i64 (how 1), .int .i64 (inp 1), .bool (sp 1), .int .i64 (how 2), .int .i64 (inp 2), .bool (sp 2), .int .i64 (how 3), .int .i64 (inp 3), .bool (sp 3)]) (.int .i64 (t : Int))).run Tryz.prog w = .ok (.agg #[.int .i64 (how t), .int .i64 (inp t), .bool (sp t)]) w := by
  rcases (show t = 0 ∨ t = 1 ∨ t = 2 ∨ t = 3 by omega) with rfl | rfl | rfl | rfl <;> simp [Instr.index, run_underlying Tryz.underlying36, asIntOf, go_sem]

def Cr.ComeTo (v : World) (P : Nat) (how inp : Nat → Int) (sp : Nat → Bool) (left : Bool) (s g c : Nat → Int) (E I : Nat → Nat → Int) (e : Ending) (x : World) : Prop :=
  ∃ A, Cr.ComesTo c sp 4 E A ∧ Cr.Goes v P how inp sp (Cr.manned A) left s g c A I e x

set_option maxRecDepth 8000 in
set_option maxHeartbeats 6400000 in
theorem cCome_any (v x : World) (P gC gE gI cC cE cI : Nat) (how inp : Nat → Int) (sp : Nat → Bool) (met left : Bool) (s g c : Nat → Int) (E I : Nat → Nat → Int) (h : Cr.Frm v x P gC gE gI cC cE cI how inp sp met left s g c E I) (hS : Cr.Sane c E I) (hF : Nv.Floor c) :
    Calls Tryz.prog 29 #[.pointer (some ⟨P, 0, none⟩)] x (Cr.ComeTo v P how inp sp left s g c E I) := by
  have hh := hide h
  have hsn : Hid (∀ t A, t ≤ 4 → Cr.ComesTo c sp t E A → Cr.Sane c A I) := fun t A ht hA => hS.comesTo ht hA
  have hF' := hide hF
  obtain ⟨a0, a1, a2, a3, a4, a5, a6, a7, a8, a9, a10, a11⟩ := h.twelve
  clear h hS hF
  go_enter Tryz.func29, Tryz.ntmps29
  go_wp2_with fail
  go_loopw [8] (fun v8 wr => ∃ (t gE cE : Nat) (A : Nat → Nat → Int), t ≤ 4 ∧ v8 = .int .i64 (t : Int) ∧ Hid (Cr.ComesTo c sp t E A) ∧ Hid (∃ gC gI cC cI, Cr.Frm v wr P gC gE gI cC cE cI how inp sp met left s g c A I)) (fun v8 _ => 10 - (intOf v8).toNat)
  case atStart => exact ⟨0, gE, cE, E, by omega, rfl, rfl, ⟨gC, gI, cC, cI, unhide hh⟩⟩
  case round =>
    clear hh a0 a1 a2 a3 a4 a5 a6 a7 a8 a9 a10 a11
    obtain ⟨t, gE, cE, A, ht, rfl, hA, hX⟩ := hrel
    obtain ⟨gC, gI, cC, cI, hh⟩ := unhide hX
    have hF1 := hide hh
    clear hX hh
    by_cases hlt : t < 4
    · have hlt' : (t : Int) < 4 := by omega
      have HL := hide hlt
      have hs := hide (unhide hsn t A ht (unhide hA))
      have hix := Cr.run_act how inp sp hlt wr
      obtain ⟨w0, hw0⟩ : ∃ w0, w0 = wr.alloc (.cells #[.int .i64 (how t), .int .i64 (inp t), .bool (sp t)] 34) := ⟨_, rfl⟩
      have hg0 : wr.grownBy w0 none := by rw [hw0]; exact World.grownBy_alloc _ _ _
      have q2 : w0.cell? ⟨wr.heap.size, 2, none⟩ = some (.bool (sp t)) := by
        rw [hw0]
        exact (Arr.lit (heap_alloc_new wr _)).cell (i := 2) (by show 2 < 3; omega)
      have hF2 := hide ((unhide hF1).on hg0)
      have ch := hero_any gE 32 cE A (t : Int) w0 (unhide hF2).lists.own.ents (unhide hF2).cap.1
      change Calls _ _ _ _ (Says w0 (.int .i64 (Gd.hero A (t : Int)))) at ch
      have hskip : Hid (¬ (sp t = true ∧ Gd.hero A (t : Int) < 0) → Cr.ComesTo c sp (t + 1) E A) := fun hn => ⟨A, unhide hA, (show Cr.Comes c (t : Int) (sp t) A A by unfold Cr.Comes; rw [if_neg hn])⟩
      have hgo : Hid (∀ F, sp t = true → Cr.Comes c (t : Int) true A F → Cr.ComesTo c sp (t + 1) E F) := fun F h1 h2 => ⟨A, unhide hA, (show Cr.Comes c (t : Int) (sp t) A F by rw [h1]; exact h2)⟩
      obtain ⟨z, hz⟩ : ∃ z, Gd.hero A (t : Int) = z := ⟨_, rfl⟩
      rw [hz] at ch hskip
      have ch' := hide ch
      have hz' := hide hz
      clear hlt ht hg0 ch hz hF1
      go_upto_region 3 with fail
      rw [← hw0]
      clear hw0 hix
      obtain ⟨Q, hQe⟩ : ∃ Q, wr.heap.size = Q := ⟨_, rfl⟩
      rw [hQe] at q2 ⊢
      clear hQe
      obtain ⟨b, hb⟩ : ∃ b, sp t = b := ⟨_, rfl⟩
      rw [hb] at q2 hskip hgo ⊢
      clear hb
      cases b
      · have hn := hide (unhide hskip (fun h => Bool.false_ne_true h.1))
        clear hskip hgo ch'
        go_wp2
        go_roundw
        case rel => exact ⟨t + 1, gE, cE, A, by have := unhide HL; omega, by go_num, hn, ⟨gC, gI, cC, cI, unhide hF2⟩⟩
        case measure => simp [intOf]; have := unhide HL; omega
      · have b5 := (unhide hF2).eleven.2.2.2.2.2.1
        have hgo2 := hide (fun F => unhide hgo F rfl)
        have hskip2 : Hid (¬ z < 0 → Cr.ComesTo c sp (t + 1) E A) := fun hn => unhide hskip (fun h => hn h.2)
        clear hgo hskip
        go_wp2_with fail
        refine (unhide ch').mono ?_
        rintro e w1 ⟨rfl, hg1⟩
        have hF3 := hide ((unhide hF2).on hg1)
        clear hg1 ch' b5 q2 hF2
        by_cases h0 : z < 0
        · have cb := hide (cBring_any v w1 P gC gE gI cC cE cI how inp sp met left s g c A I t (unhide hF3) (unhide hs) (unhide hF') (by rw [unhide hz']; exact h0))
          clear hskip2
          go_wp2_with fail
          refine (unhide cb).mono ?_
          rintro e w2 ⟨F, hco, rfl, j1, j2, j3, d1, d2, d3, hF4⟩
          have hn := hide (unhide hgo2 F hco)
          have hF5 := hide hF4
          clear hco hF4 cb hF3 hgo2
          go_wp2
          go_roundw
          case rel => exact ⟨t + 1, j2, d2, F, by have := unhide HL; omega, by go_num, hn, ⟨j1, j3, d1, d3, unhide hF5⟩⟩
          case measure => simp [intOf]; have := unhide HL; omega
        · have hn := hide (unhide hskip2 (by omega))
          clear hskip2 hgo2
          go_wp2
          go_roundw
          case rel => exact ⟨t + 1, gE, cE, A, by have := unhide HL; omega, by go_num, hn, ⟨gC, gI, cC, cI, unhide hF3⟩⟩
          case measure => simp [intOf]; have := unhide HL; omega
    · obtain rfl : t = 4 := by omega
      have hge : ¬ ((4 : Nat) : Int) < 4 := by omega
      have hs := hide (unhide hsn 4 A (Nat.le_refl _) (unhide hA))
      have b5 := (unhide hF1).eleven.2.2.2.2.2.1
      have cc := hide (cContains_any gE cE A wr (unhide hF1).lists.own (unhide hs).seats)
      obtain ⟨mm, hmm⟩ : ∃ m, Cr.manned A = m := ⟨_, rfl⟩
      rw [hmm] at cc
      have hmm' := hide hmm
      clear hlt ht hmm
      go_wp2_with fail
      refine (unhide cc).mono ?_
      rintro e w1 ⟨rfl, hg1⟩
      have hF2 := hide ((unhide hF1).on hg1)
      have hst := hide ((unhide hF2).met mm)
      have q := (unhide hF2).words.1
      have fP := (unhide hF2).box.free
      have hfin : Hid (∀ e w', Cr.Goes v P how inp sp mm left s g c A I e w' → Cr.ComeTo v P how inp sp left s g c E I e w') := fun e w' h => ⟨A, unhide hA, (show _ by rw [unhide hmm']; exact h)⟩
      clear hg1 cc b5 hF1 hF2 hmm'
      go_wp2
      go_end0
      exact unhide hfin _ _ ⟨rfl, gC, gE, gI, cC, cE, cI, unhide hst⟩

end Go.Proofs.YtbanjoflgoiegaaGreat

namespace Go.Proofs.YtbanjoflgoiegaaGreat
open Go.RowKit

theorem Lie.elevenInts {x : World} {B : Nat} {T : TypeId} {e : Nat → Int} (h : Lie x B T 11 (Ints e)) :
    x.cell? ⟨B, 0, none⟩ = some (.int .i64 (e 0)) ∧ x.cell? ⟨B, 1, none⟩ = some (.int .i64 (e 1)) ∧ x.cell? ⟨B, 2, none⟩ = some (.int .i64 (e 2)) ∧ x.cell? ⟨B, 3, none⟩ = some (.int .i64 (e 3)) ∧ x.cell? ⟨B, 4, none⟩ = some (.int .i64 (e 4)) ∧ x.cell? ⟨B, 5, none⟩ = some (.int .i64 (e 5)) ∧ x.cell? ⟨B, 6, none⟩ = some (.int .i64 (e 6)) ∧ x.cell? ⟨B, 7, none⟩ = some (.int .i64 (e 7)) ∧ x.cell? ⟨B, 8, none⟩ = some (.int .i64 (e 8)) ∧ x.cell? ⟨B, 9, none⟩ = some (.int .i64 (e 9)) ∧ x.cell? ⟨B, 10, none⟩ = some (.int .i64 (e 10)) :=
  ⟨h.cell (c := 0) (by omega), h.cell (c := 1) (by omega), h.cell (c := 2) (by omega), h.cell (c := 3) (by omega), h.cell (c := 4) (by omega), h.cell (c := 5) (by omega), h.cell (c := 6) (by omega), h.cell (c := 7) (by omega), h.cell (c := 8) (by omega), h.cell (c := 9) (by omega), h.cell (c := 10) (by omega)⟩

set_option maxRecDepth 8000 in
set_option maxHeartbeats 3200000 in
theorem mFoe_any (E : Nat → Nat → Int) (e : Nat → Int) (gE cE : Nat) (w : World) (hE : Own w gE 32 E) (hcE : 32 ≤ cE) (x0 : 0 ≤ e 3) (x9 : e 3 < 24) (y0 : 0 ≤ e 4) (y9 : e 4 < 16) :
    Calls Tryz.prog 228 #[.slice (some ⟨gE, 0, none⟩) 32 cE, .agg (En.cells e)] w (Says w (.int .i64 (Nv.wayFrom (Md.foe E (e 3) (e 4)) 4 1))) := by
  obtain ⟨w0, hw0⟩ : ∃ w0, w0 = w.alloc (.cells (En.cells e) 54) := ⟨_, rfl⟩
  have hg0 : Hid (w.grownBy w0 none) := by rw [hw0]; exact World.grownBy_alloc _ _ _
  have hQ : Hid (Lie w0 w.heap.size 54 11 (Ints e)) := by rw [hw0]; exact Lie.copied _ _ _
  have hE0 := hide (hE.ents.on (unhide hg0))
  have ca : Hid (∀ (d : Nat) (wq : World), Calls Tryz.prog 220 #[.agg (En.cells e), .int .i64 (d : Int)] wq fun x w' => (∃ a b, x = .returned (.complex .f64 a b) ∧ Fl.Rep a (e 3 + (Fx.way (d : Int)).1) ∧ Fl.Rep b (e 4 + (Fx.way (d : Int)).2)) ∧ wq.grownBy w' none) := fun d wq => mAhead_any e d wq x0 x9 y0 y9
  have hcE' := hide hcE
  obtain ⟨x, hx⟩ : ∃ x, e 3 = x := ⟨_, rfl⟩
  obtain ⟨y, hy⟩ : ∃ y, e 4 = y := ⟨_, rfl⟩
  have hK : Hid (∀ z, w0.grownBy z none → z.cell? ⟨w.heap.size, 0, none⟩ = some (.int .i64 (e 0)) ∧ z.cell? ⟨w.heap.size, 1, none⟩ = some (.int .i64 (e 1)) ∧ z.cell? ⟨w.heap.size, 2, none⟩ = some (.int .i64 (e 2)) ∧ z.cell? ⟨w.heap.size, 3, none⟩ = some (.int .i64 x) ∧ z.cell? ⟨w.heap.size, 4, none⟩ = some (.int .i64 y) ∧ z.cell? ⟨w.heap.size, 5, none⟩ = some (.int .i64 (e 5)) ∧ z.cell? ⟨w.heap.size, 6, none⟩ = some (.int .i64 (e 6)) ∧ z.cell? ⟨w.heap.size, 7, none⟩ = some (.int .i64 (e 7)) ∧ z.cell? ⟨w.heap.size, 8, none⟩ = some (.int .i64 (e 8)) ∧ z.cell? ⟨w.heap.size, 9, none⟩ = some (.int .i64 (e 9)) ∧ z.cell? ⟨w.heap.size, 10, none⟩ = some (.int .i64 (e 10))) := fun z hz => by
    rw [← hx, ← hy]
    exact ((unhide hQ).on hz).elevenInts
  unfold En.cells at hw0 ca ⊢
  rw [hx, hy] at ca
  rw [hx] at x0 x9
  rw [hy] at y0 y9
  rw [hx, hy] at hw0 ⊢
  clear hQ hE hcE hx hy
  go_enter Tryz.func228, Tryz.ntmps228
  go_upto_region 1 with fail
  rw [← hw0]
  clear hw0
  obtain ⟨B, hB⟩ : ∃ B, w.heap.size = B := ⟨_, rfl⟩
  rw [hB] at hK ⊢
  clear hB
  go_wp2_with fail
  go_loopw [5, 6, 7, 8] (fun v5 v6 v7 v8 wr => ∃ d : Nat, 1 ≤ d ∧ d ≤ 5 ∧ v5 = .int .i64 (d : Int) ∧ Hid (w0.grownBy wr none) ∧ Hid (∀ j, 1 ≤ j → j < d → Md.foe E x y j = false)) (fun v5 _ _ _ _ => 10 - (intOf v5).toNat)
  case atStart => exact ⟨1, by omega, by omega, rfl, World.grownBy.refl _ _, fun j h1 h2 => by omega⟩
  case round =>
    obtain ⟨d, hd1, hd5, rfl, hgr, hno⟩ := hrel
    by_cases hlt : d ≤ 4
    · have hlt' : (d : Int) ≤ 4 := by omega
      have HD := hide (show 1 ≤ d ∧ d ≤ 4 from ⟨hd1, hlt⟩)
      obtain ⟨s1, s2, s3, s4⟩ := Md.way_small d
      have cat : Hid (∀ z, w0.grownBy z none → Calls Tryz.prog 102 #[.slice (some ⟨gE, 0, none⟩) 32 cE, .int .i64 (x + (Fx.way (d : Int)).1), .int .i64 (y + (Fx.way (d : Int)).2)] z (Says z (.int .i64 (Md.who E x y d)))) := fun z hz => entAt_any gE 32 cE E _ _ z ((unhide hE0).on hz) (unhide hcE')
      have hwho := hide (@Md.who_row E x y d)
      have hfd : Hid (Md.foe E x y d = (decide (0 ≤ Md.who E x y d) && !(decide (E (Md.who E x y d).toNat 0 = 1)))) := rfl
      have cad := hide (fun wq => unhide ca d wq)
      obtain ⟨X, hX⟩ : ∃ X, x + (Fx.way (d : Int)).1 = X := ⟨_, rfl⟩
      obtain ⟨Y, hY⟩ : ∃ Y, y + (Fx.way (d : Int)).2 = Y := ⟨_, rfl⟩
      obtain ⟨h, hh⟩ : ∃ z, Md.who E x y d = z := ⟨_, rfl⟩
      have bX : -1 ≤ X ∧ X ≤ 24 := by omega
      have bY : -1 ≤ Y ∧ Y ≤ 16 := by omega
      rw [hX, hY] at cad cat
      rw [hh] at cat hwho hfd
      clear hX hY hh s1 s2 s3 s4 hd1 hd5 hlt x0 x9 y0 y9
      obtain ⟨k0, k1, k2, k3, k4, k5, k6, k7, k8, k9, k10⟩ := unhide hK _ (unhide hgr)
      go_wp2_with fail
      refine (unhide cad _).mono ?_
      rintro xx w1 ⟨⟨a, b, rfl, Ra, Rb⟩, hg⟩
      have hg1 := hide (grown_trans (unhide hgr) hg)
      have cp := hide (fun wq => mParts_any a b X Y wq Ra Rb (by omega) (by omega) (by omega) (by omega))
      clear hg Ra Rb k0 k1 k2 k3 k4 k5 k6 k7 k8 k9 k10 bX bY
      go_wp2_with fail
      refine (unhide cp _).mono ?_
      rintro xx wy ⟨rfl, hw⟩
      subst wy
      clear cp
      go_wp2_with fail
      refine (unhide cat _ (unhide hg1)).mono ?_
      rintro xx w2 ⟨rfl, hg⟩
      have hg2 := hide (grown_trans (unhide hg1) hg)
      clear hg cat cad
      rcases unhide hwho with rfl | ⟨j, hj, rfl⟩
      · have hf : Hid (Md.foe E x y d = false) := (show Md.foe E x y d = false by rw [unhide hfd]; rfl)
        clear hfd hwho
        go_wp2
        go_roundw
        case rel => exact ⟨d + 1, by omega, by have := unhide HD; omega, by go_num, hg2, fun j h1 h2 => by
          by_cases e : j = d
          · rw [e]; exact unhide hf
          · exact unhide hno j h1 (by omega)⟩
        case measure => simp [intOf]; have := unhide HD; omega
      · have u0 := (((unhide hE0).on (unhide hg2)).row hj).1
        have hj' : (j : Int) < 32 := by omega
        rw [Int.toNat_natCast] at hfd
        by_cases h1 : E j 0 = 1
        · have hf : Hid (Md.foe E x y d = false) := (show Md.foe E x y d = false by rw [unhide hfd, h1]; simp)
          rw [h1] at u0
          clear hfd hwho h1 hj
          go_wp2
          go_roundw
          case rel => exact ⟨d + 1, by omega, by have := unhide HD; omega, by go_num, hg2, fun j h1 h2 => by
            by_cases e : j = d
            · rw [e]; exact unhide hf
            · exact unhide hno j h1 (by omega)⟩
          case measure => simp [intOf]; have := unhide HD; omega
        · have hf : Hid (Md.foe E x y d = true) := (show Md.foe E x y d = true by rw [unhide hfd]; simp [h1])
          have h1' : (E j 0 == 1) = false := by simpa using h1
          have hw : Hid (Nv.wayFrom (Md.foe E x y) 4 1 = (d : Int)) := Nv.way_hit 4 d 1 (unhide hno) (unhide hf) (unhide HD).1 (by have := (unhide HD).2; omega)
          have hfin : Hid (Says w (.int .i64 (Nv.wayFrom (Md.foe E x y) 4 1)) (.returned (.int .i64 (d : Int))) w2) := ⟨by rw [unhide hw], grown_trans (unhide hg0) (unhide hg2)⟩
          clear hfd hwho h1 hj hw hf
          go_wp2
          go_ret
          exact unhide hfin
    · obtain rfl : d = 5 := by omega
      have hge : ¬ ((5 : Nat) : Int) ≤ 4 := by omega
      have hw : Hid (Nv.wayFrom (Md.foe E x y) 4 1 = 0) := Nv.way_none 4 1 fun j h1 h2 => unhide hno j h1 (by omega)
      have hfin : Hid (Says w (.int .i64 (Nv.wayFrom (Md.foe E x y) 4 1)) (.returned (.int .i64 0)) wr) := ⟨by rw [unhide hw], grown_trans (unhide hg0) (unhide hgr)⟩
      clear hlt hd1 hd5 hno hw
      go_wp2
      go_ret
      exact unhide hfin

end Go.Proofs.YtbanjoflgoiegaaGreat
