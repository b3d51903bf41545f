/-
  What is worn helps, what was worn is in the bag again, and worn twice about all is as it was: for every seed, slot and kind of piece, with and without one that was worn ahead, at this commit; no condition.
-/
import Derived.Test.YthngbjmiblbohaaRows
import Derived.WalkKit
import Derived.ProofKit
import Derived.OpenShut
import Derived.Test.YthngbjmiblbohaaGoodsEnd
import Derived.Test.YthngbjmiblbohaaGoodsPlay
import Derived.Below
import Derived.ChangeOld
import Derived.ShutString
namespace Go.Proofs.Ythngbjmiblbohaa.goodsWears
open Go.ChangeShapes Go.WideShapes Go.ChangeAt Go.RowKit
open Go.ChangeMaps (open_string shut_string)
set_option linter.unusedVariables false

theorem own : ownKnob Try.prog.godebug = none := by kernel_rfl

theorem Gd.duo_lone (a : Nat → Int) : En.put (fun _ _ => 0) 5 a = Gd.duo a (fun _ => 0) := by
  funext j
  unfold Gd.duo
  by_cases e : j = 9
  · subst e
    rw [En.put_same, En.put_other (by omega)]
  · rw [En.put_other e]

set_option maxHeartbeats 12800000 in

theorem walk (a0 : Int) (a1 : Bool) (a2 : Int) (a3 : Bool) (w0 : (Lit.int .i64 a0).wf = true) (w2 : (Lit.int .i64 a2).wf = true) (w : World) :
    Calls Try.prog 7 #[.int .i64 a0, .bool a1, .int .i64 a2, .bool a3] w fun e w' => e = .returned (.bool true) ∧ Below w.heap.size w w' := by
  clear w0 w2
  obtain ⟨sl, hsl⟩ : ∃ sl : Nat, a2 % 4 = (sl : Int) := ⟨(a2 % 4).toNat, by omega⟩
  have hs4 : sl < 4 := by omega
  have cS : Hid (∀ wq, Calls Try.prog 11 #[.int .i64 a2, .int .i64 4] wq fun e w' => e = .returned (.int .i64 (sl : Int)) ∧ w' = wq) := fun wq => by
    have h := within7_any a2 4 wq (by omega) (by omega)
    rw [hsl] at h
    exact h
  clear hsl
  go_enter Try.func7, Try.ntmps7
  go_wp2_with fail
  refine (known7_any _).mono ?_
  rintro e wk ⟨rfl, hgk⟩
  have hgk' := hide hgk
  clear hgk
  go_wp2_with fail
  refine (world_bare a0 0 0 1 0 (by decide) (by decide) _).mono ?_
  rintro e wa ⟨c, kc, s, g, E, hS, _, _, _, _, gC, gE, gI, cC, cE, cI, rfl, hcap, l1, l2, l3, n1, n2, n3, hL, hg⟩
  have hW := hide (Gd.law_new (s := s) (g := g) (cC := cC) (cI := cI) (unhide hgk') hcap l1 l2 l3 n1 n2 n3 hL hg)
  have hS' := hide hS
  clear hcap l1 l2 l3 n1 n2 n3 hL hg hgk' hS
  unfold Gd.world at hW ⊢
  go_wp2_with fail
  refine (unhide cS _).mono ?_
  rintro e wy ⟨rfl, hy⟩
  subst wy
  clear cS
  obtain ⟨T, hT⟩ : ∃ T, wa.heap.size = T := ⟨_, rfl⟩
  rw [hT] at hW ⊢
  generalize wa.alloc (.cells #[.int .i64 (s 0), .int .i64 (s 1), .int .i64 (s 2), .int .i64 (s 3), .slice (some ⟨gC, 0, none⟩) 384 cC, .slice (some ⟨gE, 0, none⟩) 32 cE, .slice (some ⟨gI, 0, none⟩) 40 cI, .int .i64 (g 0), .int .i64 (g 1), .int .i64 (g 2), .int .i64 (g 3)] 29) = wb at hW ⊢
  clear hT
  have q6 := (unhide hW).eleven.2.2.2.2.2.2.1
  have fI := (unhide hW).hold.lists.items.free
  have lI := (unhide hW).hold.lists.items.lt
  have lT := (unhide hW).hold.box.lt
  have hTI : T ≠ gI := (unhide hW).hold.bI
  have hIT : gI ≠ T := hTI.symm
  have r20 := (unhide hW).at 20 (by omega) 0 rfl
  have r21 := (unhide hW).at 21 (by omega) 0 rfl
  have r22 := (unhide hW).at 22 (by omega) 0 rfl
  have r23 := (unhide hW).at 23 (by omega) 0 rfl
  have r36 := (unhide hW).at 36 (by omega) 0 rfl
  have r37 := (unhide hW).at 37 (by omega) 0 rfl
  have r38 := (unhide hW).at 38 (by omega) 0 rfl
  have r39 := (unhide hW).at 39 (by omega) 0 rfl
  have hEn := fun j => Gd.entsOf E j
  obtain ⟨b0, b1, b2, b3, b4, b5, -, b7, b8, b9, b10⟩ := (unhide hW).eleven
  clear hEn
  cases a1
  · cases a3
    · have hS1 := hide ((unhide hS').items (J := (Gd.duo (Gd.row 2 2 0 (sl : Int)) (fun _ => 0))) (Gd.ok_duo (Gd.placed_bag (kd := 2) (sl := sl) (by omega) (by omega) hs4) (.inl ⟨rfl, rfl, rfl, rfl⟩) (fun h => by have : (2 : Int) = 0 := h.1; omega)))
      have hS2 := hide ((unhide hS').items (J := (Gd.duo (Gd.row 2 3 0 0) (fun _ => 0))) (Gd.ok_duo (Gd.placed_worn (kd := 2) (by omega) (by omega)) (.inl ⟨rfl, rfl, rfl, rfl⟩) (fun h => by have : (3 : Int) = 0 := h.1; omega)))
      have cd1 : Hid (∀ x, Gd.Lists x gC gE gI c E (Gd.duo (Gd.row 2 2 0 (sl : Int)) (fun _ => 0)) → Calls Try.prog 13 #[.agg (Gd.world s gC gE gI cC cE cI g), .int .i64 0, .int .i64 7] x (Gd.Worlds x s g c E (Gd.duo (Gd.row 2 3 0 0) (fun _ => 0)))) := fun x hx => do_items s g c E _ _ gC gE gI cC cE cI _ kc 0 7 (unhide hS1) (.inl rfl) (Gd.wear_lone (kd := 2) (sl := sl) (by omega) (by omega) hs4) x hx
      have cd2 : Hid (∀ x jC jE jI dC dE dI, Gd.Lists x jC jE jI c E (Gd.duo (Gd.row 2 3 0 0) (fun _ => 0)) → Calls Try.prog 13 #[.agg (Gd.world s jC jE jI dC dE dI g), .int .i64 0, .int .i64 7] x (Gd.Worlds x s g c E (Gd.duo (Gd.row 2 3 0 0) (fun _ => 0)))) := fun x jC jE jI dC dE dI hx => do_items s g c E _ _ jC jE jI dC dE dI _ kc 0 7 (unhide hS2) (.inl rfl) (Gd.wear_only (kd := 2)) x hx
      have cb : Hid (∀ x jC jE jI dC dE dI, Gd.Lists x jC jE jI c E (Gd.duo (Gd.row 2 3 0 0) (fun _ => 0)) → Calls Try.prog 19 #[.agg (Gd.world s jC jE jI dC dE dI g), .int .i64 0] x (Says x (.tuple #[.int .i64 3, .int .i64 0]))) := fun x jC jE jI dC dE dI hx => by
        have h := bonus_any s g c E (Gd.duo (Gd.row 2 3 0 0) (fun _ => 0)) jC jE jI dC dE dI 0 x hx
        rw [show (Gd.duo (Gd.row 2 3 0 0) (fun _ => 0)) = Gd.duo (Gd.row 2 3 0 (2 - 2)) (fun _ => 0) from rfl, Gd.worn_duo (by show (0 : Int) ≠ 3; omega), Gd.worn_duo (by show (0 : Int) ≠ 3; omega)] at h
        exact h
      have hWp := hide (((unhide hW).put 5 2 2 0 (sl : Int)).same (Gd.duo_lone _))
      clear hS'
      unfold Gd.world at cd1 cd2 cb
      go_wp2_with fail
      refine (unhide cd1 _ ((unhide hWp).hold.lists.on (World.grownBy_alloc _ _ _))).mono ?_
      rintro e wc ⟨jC, jE, jI, dC, dE, dI, rfl, hcap, l1, l2, l3, n1, n2, n3, hL, hg⟩
      have hWc := hide (((unhide hWp).on (World.grownBy_alloc _ _ _)).on hg)
      have hV := hide (Gd.law_new (s := s) (g := g) (cC := dC) (cI := dI) (((unhide hWp).on (World.grownBy_alloc _ _ _)).grown) hcap l1 l2 l3 n1 n2 n3 hL hg)
      clear hcap l1 l2 l3 n1 n2 n3 hL hg cd1 hWp hW q6 fI lI r20 r21 r22 r23 r36 r37 r38 r39 b0 b1 b2 b3 b4 b5 b7 b8 b9 b10 lT hTI hIT
      unfold Gd.world at hV ⊢
      go_wp2_with fail
      obtain ⟨T2, hT2⟩ : ∃ T2, wc.heap.size = T2 := ⟨_, rfl⟩
      have hWd := hide ((unhide hWc).on (World.grownBy_alloc wc (.cells #[.int .i64 (s 0), .int .i64 (s 1), .int .i64 (s 2), .int .i64 (s 3), .slice (some ⟨jC, 0, none⟩) 384 dC, .slice (some ⟨jE, 0, none⟩) 32 dE, .slice (some ⟨jI, 0, none⟩) 40 dI, .int .i64 (g 0), .int .i64 (g 1), .int .i64 (g 2), .int .i64 (g 3)] 29) none))
      rw [hT2] at hV ⊢
      generalize wc.alloc (.cells #[.int .i64 (s 0), .int .i64 (s 1), .int .i64 (s 2), .int .i64 (s 3), .slice (some ⟨jC, 0, none⟩) 384 dC, .slice (some ⟨jE, 0, none⟩) 32 dE, .slice (some ⟨jI, 0, none⟩) 40 dI, .int .i64 (g 0), .int .i64 (g 1), .int .i64 (g 2), .int .i64 (g 3)] 29) = wd at hV hWd ⊢
      clear hT2 hWc
      refine (unhide cb _ _ _ _ _ _ _ (unhide hV).hold.lists).mono ?_
      rintro e we ⟨rfl, hg⟩
      have hV2 := hide ((unhide hV).on hg)
      have hW2 := hide ((unhide hWd).on hg)
      clear hg hV hWd cb wd
      obtain ⟨b0, b1, b2, b3, b4, b5, b6, b7, b8, b9, b10⟩ := (unhide hV2).eleven
      have v21 := (unhide hV2).at 21 (by omega) 3 rfl
      go_wp2_with fail
      refine (unhide cd2 _ _ _ _ _ _ _ (unhide hV2).hold.lists).mono ?_
      rintro e wf ⟨pC, pE, pI, fC, fE, fI, rfl, hcap, l1, l2, l3, n1, n2, n3, hL, hg⟩
      have hV3 := hide ((unhide hV2).on hg)
      have hW3 := hide ((unhide hW2).on hg)
      have hU := hide (Gd.law_new (s := s) (g := g) (cC := fC) (cI := fI) (unhide hV2).grown hcap l1 l2 l3 n1 n2 n3 hL hg)
      clear hcap l1 l2 l3 n1 n2 n3 hL hg cd2 hV2 hW2 b0 b1 b2 b3 b4 b5 b6 b7 b8 b9 b10 v21 we
      unfold Gd.world at hU ⊢
      go_upto_region 16 with fail
      obtain ⟨T3, hT3⟩ : ∃ T3, wf.heap.size = T3 := ⟨_, rfl⟩
      have hV4 := hide ((unhide hV3).on (World.grownBy_alloc wf (.cells #[.int .i64 (s 0), .int .i64 (s 1), .int .i64 (s 2), .int .i64 (s 3), .slice (some ⟨pC, 0, none⟩) 384 fC, .slice (some ⟨pE, 0, none⟩) 32 fE, .slice (some ⟨pI, 0, none⟩) 40 fI, .int .i64 (g 0), .int .i64 (g 1), .int .i64 (g 2), .int .i64 (g 3)] 29) none))
      have hW4 := hide ((unhide hW3).on (World.grownBy_alloc wf (.cells #[.int .i64 (s 0), .int .i64 (s 1), .int .i64 (s 2), .int .i64 (s 3), .slice (some ⟨pC, 0, none⟩) 384 fC, .slice (some ⟨pE, 0, none⟩) 32 fE, .slice (some ⟨pI, 0, none⟩) 40 fI, .int .i64 (g 0), .int .i64 (g 1), .int .i64 (g 2), .int .i64 (g 3)] 29) none))
      rw [hT3] at hU ⊢
      generalize wf.alloc (.cells #[.int .i64 (s 0), .int .i64 (s 1), .int .i64 (s 2), .int .i64 (s 3), .slice (some ⟨pC, 0, none⟩) 384 fC, .slice (some ⟨pE, 0, none⟩) 32 fE, .slice (some ⟨pI, 0, none⟩) 40 fI, .int .i64 (g 0), .int .i64 (g 1), .int .i64 (g 2), .int .i64 (g 3)] 29) = wg at hU hV4 hW4 ⊢
      clear hT3 hV3 hW3
      obtain ⟨b0, b1, b2, b3, b4, b5, b6, b7, b8, b9, b10⟩ := (unhide hV4).eleven
      obtain ⟨d0, d1, d2, d3, d4, d5, d6, d7, d8, d9, d10⟩ := (unhide hU).eleven
      have cs := hide (same7_any s g c E (Gd.duo (Gd.row 2 3 0 0) (fun _ => 0)) pC pE pI fC fE fI jC jE jI dC dE dI wg (unhide hU).hold.lists (unhide hV4).hold.lists)
      unfold Gd.world at cs
      go_wp2_with fail
      refine (unhide cs).mono ?_
      rintro e wh ⟨rfl, hg⟩
      have hfin := hide (grown_trans (unhide hU).grown hg)
      clear hg cs
      go_wp2
      go_ret
      exact ⟨rfl, none_below (unhide hfin)⟩
    · have hS1 := hide ((unhide hS').items (J := (Gd.duo (Gd.row 2 2 0 (sl : Int)) (Gd.row 2 3 0 0))) (Gd.ok_duo (Gd.placed_bag (kd := 2) (sl := sl) (by omega) (by omega) hs4) (.inr (Gd.placed_worn (kd := 2) (by omega) (by omega))) (fun h => by have : (2 : Int) = 3 := h.1; omega)))
      have hS2 := hide ((unhide hS').items (J := (Gd.duo (Gd.row 2 3 0 0) (Gd.row 2 2 0 (sl : Int)))) (Gd.ok_duo (Gd.placed_worn (kd := 2) (by omega) (by omega)) (.inr (Gd.placed_bag (kd := 2) (sl := sl) (by omega) (by omega) hs4)) (fun h => by have : (3 : Int) = 2 := h.1; omega)))
      have cd1 : Hid (∀ x, Gd.Lists x gC gE gI c E (Gd.duo (Gd.row 2 2 0 (sl : Int)) (Gd.row 2 3 0 0)) → Calls Try.prog 13 #[.agg (Gd.world s gC gE gI cC cE cI g), .int .i64 0, .int .i64 7] x (Gd.Worlds x s g c E (Gd.duo (Gd.row 2 3 0 0) (Gd.row 2 2 0 (sl : Int))))) := fun x hx => do_items s g c E _ _ gC gE gI cC cE cI _ kc 0 7 (unhide hS1) (.inl rfl) (Gd.wear_duo5 (kd := 2) (sl := sl) (by omega) (by omega) hs4) x hx
      have cd2 : Hid (∀ x jC jE jI dC dE dI, Gd.Lists x jC jE jI c E (Gd.duo (Gd.row 2 3 0 0) (Gd.row 2 2 0 (sl : Int))) → Calls Try.prog 13 #[.agg (Gd.world s jC jE jI dC dE dI g), .int .i64 0, .int .i64 7] x (Gd.Worlds x s g c E (Gd.duo (Gd.row 2 2 0 (sl : Int)) (Gd.row 2 3 0 0)))) := fun x jC jE jI dC dE dI hx => do_items s g c E _ _ jC jE jI dC dE dI _ kc 0 7 (unhide hS2) (.inl rfl) (Gd.wear_duo9 (kd := 2) (sl := sl) (by omega) (by omega) hs4) x hx
      have cb : Hid (∀ x jC jE jI dC dE dI, Gd.Lists x jC jE jI c E (Gd.duo (Gd.row 2 3 0 0) (Gd.row 2 2 0 (sl : Int))) → Calls Try.prog 19 #[.agg (Gd.world s jC jE jI dC dE dI g), .int .i64 0] x (Says x (.tuple #[.int .i64 3, .int .i64 0]))) := fun x jC jE jI dC dE dI hx => by
        have h := bonus_any s g c E (Gd.duo (Gd.row 2 3 0 0) (Gd.row 2 2 0 (sl : Int))) jC jE jI dC dE dI 0 x hx
        rw [show (Gd.duo (Gd.row 2 3 0 0) (Gd.row 2 2 0 (sl : Int))) = Gd.duo (Gd.row 2 3 0 (2 - 2)) (Gd.row 2 2 0 (sl : Int)) from rfl, Gd.worn_duo (by show (2 : Int) ≠ 3; omega), Gd.worn_duo (by show (2 : Int) ≠ 3; omega)] at h
        exact h
      have hWp := hide (((unhide hW).put 5 2 2 0 (sl : Int)).put 9 2 3 0 0)
      clear hS'
      unfold Gd.world at cd1 cd2 cb
      go_wp2_with fail
      refine (unhide cd1 _ ((unhide hWp).hold.lists.on (World.grownBy_alloc _ _ _))).mono ?_
      rintro e wc ⟨jC, jE, jI, dC, dE, dI, rfl, hcap, l1, l2, l3, n1, n2, n3, hL, hg⟩
      have hWc := hide (((unhide hWp).on (World.grownBy_alloc _ _ _)).on hg)
      have hV := hide (Gd.law_new (s := s) (g := g) (cC := dC) (cI := dI) (((unhide hWp).on (World.grownBy_alloc _ _ _)).grown) hcap l1 l2 l3 n1 n2 n3 hL hg)
      clear hcap l1 l2 l3 n1 n2 n3 hL hg cd1 hWp hW q6 fI lI r20 r21 r22 r23 r36 r37 r38 r39 b0 b1 b2 b3 b4 b5 b7 b8 b9 b10 lT hTI hIT
      unfold Gd.world at hV ⊢
      go_wp2_with fail
      obtain ⟨T2, hT2⟩ : ∃ T2, wc.heap.size = T2 := ⟨_, rfl⟩
      have hWd := hide ((unhide hWc).on (World.grownBy_alloc wc (.cells #[.int .i64 (s 0), .int .i64 (s 1), .int .i64 (s 2), .int .i64 (s 3), .slice (some ⟨jC, 0, none⟩) 384 dC, .slice (some ⟨jE, 0, none⟩) 32 dE, .slice (some ⟨jI, 0, none⟩) 40 dI, .int .i64 (g 0), .int .i64 (g 1), .int .i64 (g 2), .int .i64 (g 3)] 29) none))
      rw [hT2] at hV ⊢
      generalize wc.alloc (.cells #[.int .i64 (s 0), .int .i64 (s 1), .int .i64 (s 2), .int .i64 (s 3), .slice (some ⟨jC, 0, none⟩) 384 dC, .slice (some ⟨jE, 0, none⟩) 32 dE, .slice (some ⟨jI, 0, none⟩) 40 dI, .int .i64 (g 0), .int .i64 (g 1), .int .i64 (g 2), .int .i64 (g 3)] 29) = wd at hV hWd ⊢
      clear hT2 hWc
      refine (unhide cb _ _ _ _ _ _ _ (unhide hV).hold.lists).mono ?_
      rintro e we ⟨rfl, hg⟩
      have hV2 := hide ((unhide hV).on hg)
      have hW2 := hide ((unhide hWd).on hg)
      clear hg hV hWd cb wd
      obtain ⟨b0, b1, b2, b3, b4, b5, b6, b7, b8, b9, b10⟩ := (unhide hV2).eleven
      have v21 := (unhide hV2).at 21 (by omega) 3 rfl
      go_wp2_with fail
      refine (unhide cd2 _ _ _ _ _ _ _ (unhide hV2).hold.lists).mono ?_
      rintro e wf ⟨pC, pE, pI, fC, fE, fI, rfl, hcap, l1, l2, l3, n1, n2, n3, hL, hg⟩
      have hV3 := hide ((unhide hV2).on hg)
      have hW3 := hide ((unhide hW2).on hg)
      have hU := hide (Gd.law_new (s := s) (g := g) (cC := fC) (cI := fI) (unhide hV2).grown hcap l1 l2 l3 n1 n2 n3 hL hg)
      clear hcap l1 l2 l3 n1 n2 n3 hL hg cd2 hV2 hW2 b0 b1 b2 b3 b4 b5 b6 b7 b8 b9 b10 v21 we
      unfold Gd.world at hU ⊢
      go_upto_region 16 with fail
      obtain ⟨T3, hT3⟩ : ∃ T3, wf.heap.size = T3 := ⟨_, rfl⟩
      have hV4 := hide ((unhide hV3).on (World.grownBy_alloc wf (.cells #[.int .i64 (s 0), .int .i64 (s 1), .int .i64 (s 2), .int .i64 (s 3), .slice (some ⟨pC, 0, none⟩) 384 fC, .slice (some ⟨pE, 0, none⟩) 32 fE, .slice (some ⟨pI, 0, none⟩) 40 fI, .int .i64 (g 0), .int .i64 (g 1), .int .i64 (g 2), .int .i64 (g 3)] 29) none))
      have hW4 := hide ((unhide hW3).on (World.grownBy_alloc wf (.cells #[.int .i64 (s 0), .int .i64 (s 1), .int .i64 (s 2), .int .i64 (s 3), .slice (some ⟨pC, 0, none⟩) 384 fC, .slice (some ⟨pE, 0, none⟩) 32 fE, .slice (some ⟨pI, 0, none⟩) 40 fI, .int .i64 (g 0), .int .i64 (g 1), .int .i64 (g 2), .int .i64 (g 3)] 29) none))
      rw [hT3] at hU ⊢
      generalize wf.alloc (.cells #[.int .i64 (s 0), .int .i64 (s 1), .int .i64 (s 2), .int .i64 (s 3), .slice (some ⟨pC, 0, none⟩) 384 fC, .slice (some ⟨pE, 0, none⟩) 32 fE, .slice (some ⟨pI, 0, none⟩) 40 fI, .int .i64 (g 0), .int .i64 (g 1), .int .i64 (g 2), .int .i64 (g 3)] 29) = wg at hU hV4 hW4 ⊢
      clear hT3 hV3 hW3
      obtain ⟨b0, b1, b2, b3, b4, b5, b6, b7, b8, b9, b10⟩ := (unhide hV4).eleven
      obtain ⟨d0, d1, d2, d3, d4, d5, d6, d7, d8, d9, d10⟩ := (unhide hU).eleven
      have v37 := (unhide hV4).at 37 (by omega) 2 rfl
      have v39 := (unhide hV4).at 39 (by omega) (sl : Int) rfl
      obtain ⟨z0, z1, z2, z3, z4, z5, z6, z7, z8, z9, z10⟩ := (unhide hW4).eleven
      have cs := hide (same7_any s g c E (Gd.duo (Gd.row 2 2 0 (sl : Int)) (Gd.row 2 3 0 0)) pC pE pI fC fE fI gC gE gI cC cE cI wg (unhide hU).hold.lists (unhide hW4).hold.lists)
      unfold Gd.world at cs
      go_wp2_with fail
      refine (unhide cs).mono ?_
      rintro e wh ⟨rfl, hg⟩
      have hfin := hide (grown_trans (unhide hU).grown hg)
      clear hg cs
      go_wp2
      go_ret
      exact ⟨rfl, none_below (unhide hfin)⟩
  · cases a3
    · have hS1 := hide ((unhide hS').items (J := (Gd.duo (Gd.row 3 2 0 (sl : Int)) (fun _ => 0))) (Gd.ok_duo (Gd.placed_bag (kd := 3) (sl := sl) (by omega) (by omega) hs4) (.inl ⟨rfl, rfl, rfl, rfl⟩) (fun h => by have : (2 : Int) = 0 := h.1; omega)))
      have hS2 := hide ((unhide hS').items (J := (Gd.duo (Gd.row 3 3 0 1) (fun _ => 0))) (Gd.ok_duo (Gd.placed_worn (kd := 3) (by omega) (by omega)) (.inl ⟨rfl, rfl, rfl, rfl⟩) (fun h => by have : (3 : Int) = 0 := h.1; omega)))
      have cd1 : Hid (∀ x, Gd.Lists x gC gE gI c E (Gd.duo (Gd.row 3 2 0 (sl : Int)) (fun _ => 0)) → Calls Try.prog 13 #[.agg (Gd.world s gC gE gI cC cE cI g), .int .i64 0, .int .i64 7] x (Gd.Worlds x s g c E (Gd.duo (Gd.row 3 3 0 1) (fun _ => 0)))) := fun x hx => do_items s g c E _ _ gC gE gI cC cE cI _ kc 0 7 (unhide hS1) (.inl rfl) (Gd.wear_lone (kd := 3) (sl := sl) (by omega) (by omega) hs4) x hx
      have cd2 : Hid (∀ x jC jE jI dC dE dI, Gd.Lists x jC jE jI c E (Gd.duo (Gd.row 3 3 0 1) (fun _ => 0)) → Calls Try.prog 13 #[.agg (Gd.world s jC jE jI dC dE dI g), .int .i64 0, .int .i64 7] x (Gd.Worlds x s g c E (Gd.duo (Gd.row 3 3 0 1) (fun _ => 0)))) := fun x jC jE jI dC dE dI hx => do_items s g c E _ _ jC jE jI dC dE dI _ kc 0 7 (unhide hS2) (.inl rfl) (Gd.wear_only (kd := 3)) x hx
      have cb : Hid (∀ x jC jE jI dC dE dI, Gd.Lists x jC jE jI c E (Gd.duo (Gd.row 3 3 0 1) (fun _ => 0)) → Calls Try.prog 19 #[.agg (Gd.world s jC jE jI dC dE dI g), .int .i64 0] x (Says x (.tuple #[.int .i64 0, .int .i64 2]))) := fun x jC jE jI dC dE dI hx => by
        have h := bonus_any s g c E (Gd.duo (Gd.row 3 3 0 1) (fun _ => 0)) jC jE jI dC dE dI 0 x hx
        rw [show (Gd.duo (Gd.row 3 3 0 1) (fun _ => 0)) = Gd.duo (Gd.row 3 3 0 (3 - 2)) (fun _ => 0) from rfl, Gd.worn_duo (by show (0 : Int) ≠ 3; omega), Gd.worn_duo (by show (0 : Int) ≠ 3; omega)] at h
        exact h
      have hWp := hide (((unhide hW).put 5 3 2 0 (sl : Int)).same (Gd.duo_lone _))
      clear hS'
      unfold Gd.world at cd1 cd2 cb
      go_wp2_with fail
      refine (unhide cd1 _ ((unhide hWp).hold.lists.on (World.grownBy_alloc _ _ _))).mono ?_
      rintro e wc ⟨jC, jE, jI, dC, dE, dI, rfl, hcap, l1, l2, l3, n1, n2, n3, hL, hg⟩
      have hWc := hide (((unhide hWp).on (World.grownBy_alloc _ _ _)).on hg)
      have hV := hide (Gd.law_new (s := s) (g := g) (cC := dC) (cI := dI) (((unhide hWp).on (World.grownBy_alloc _ _ _)).grown) hcap l1 l2 l3 n1 n2 n3 hL hg)
      clear hcap l1 l2 l3 n1 n2 n3 hL hg cd1 hWp hW q6 fI lI r20 r21 r22 r23 r36 r37 r38 r39 b0 b1 b2 b3 b4 b5 b7 b8 b9 b10 lT hTI hIT
      unfold Gd.world at hV ⊢
      go_wp2_with fail
      obtain ⟨T2, hT2⟩ : ∃ T2, wc.heap.size = T2 := ⟨_, rfl⟩
      have hWd := hide ((unhide hWc).on (World.grownBy_alloc wc (.cells #[.int .i64 (s 0), .int .i64 (s 1), .int .i64 (s 2), .int .i64 (s 3), .slice (some ⟨jC, 0, none⟩) 384 dC, .slice (some ⟨jE, 0, none⟩) 32 dE, .slice (some ⟨jI, 0, none⟩) 40 dI, .int .i64 (g 0), .int .i64 (g 1), .int .i64 (g 2), .int .i64 (g 3)] 29) none))
      rw [hT2] at hV ⊢
      generalize wc.alloc (.cells #[.int .i64 (s 0), .int .i64 (s 1), .int .i64 (s 2), .int .i64 (s 3), .slice (some ⟨jC, 0, none⟩) 384 dC, .slice (some ⟨jE, 0, none⟩) 32 dE, .slice (some ⟨jI, 0, none⟩) 40 dI, .int .i64 (g 0), .int .i64 (g 1), .int .i64 (g 2), .int .i64 (g 3)] 29) = wd at hV hWd ⊢
      clear hT2 hWc
      refine (unhide cb _ _ _ _ _ _ _ (unhide hV).hold.lists).mono ?_
      rintro e we ⟨rfl, hg⟩
      have hV2 := hide ((unhide hV).on hg)
      have hW2 := hide ((unhide hWd).on hg)
      clear hg hV hWd cb wd
      obtain ⟨b0, b1, b2, b3, b4, b5, b6, b7, b8, b9, b10⟩ := (unhide hV2).eleven
      have v21 := (unhide hV2).at 21 (by omega) 3 rfl
      go_wp2_with fail
      refine (unhide cd2 _ _ _ _ _ _ _ (unhide hV2).hold.lists).mono ?_
      rintro e wf ⟨pC, pE, pI, fC, fE, fI, rfl, hcap, l1, l2, l3, n1, n2, n3, hL, hg⟩
      have hV3 := hide ((unhide hV2).on hg)
      have hW3 := hide ((unhide hW2).on hg)
      have hU := hide (Gd.law_new (s := s) (g := g) (cC := fC) (cI := fI) (unhide hV2).grown hcap l1 l2 l3 n1 n2 n3 hL hg)
      clear hcap l1 l2 l3 n1 n2 n3 hL hg cd2 hV2 hW2 b0 b1 b2 b3 b4 b5 b6 b7 b8 b9 b10 v21 we
      unfold Gd.world at hU ⊢
      go_upto_region 16 with fail
      obtain ⟨T3, hT3⟩ : ∃ T3, wf.heap.size = T3 := ⟨_, rfl⟩
      have hV4 := hide ((unhide hV3).on (World.grownBy_alloc wf (.cells #[.int .i64 (s 0), .int .i64 (s 1), .int .i64 (s 2), .int .i64 (s 3), .slice (some ⟨pC, 0, none⟩) 384 fC, .slice (some ⟨pE, 0, none⟩) 32 fE, .slice (some ⟨pI, 0, none⟩) 40 fI, .int .i64 (g 0), .int .i64 (g 1), .int .i64 (g 2), .int .i64 (g 3)] 29) none))
      have hW4 := hide ((unhide hW3).on (World.grownBy_alloc wf (.cells #[.int .i64 (s 0), .int .i64 (s 1), .int .i64 (s 2), .int .i64 (s 3), .slice (some ⟨pC, 0, none⟩) 384 fC, .slice (some ⟨pE, 0, none⟩) 32 fE, .slice (some ⟨pI, 0, none⟩) 40 fI, .int .i64 (g 0), .int .i64 (g 1), .int .i64 (g 2), .int .i64 (g 3)] 29) none))
      rw [hT3] at hU ⊢
      generalize wf.alloc (.cells #[.int .i64 (s 0), .int .i64 (s 1), .int .i64 (s 2), .int .i64 (s 3), .slice (some ⟨pC, 0, none⟩) 384 fC, .slice (some ⟨pE, 0, none⟩) 32 fE, .slice (some ⟨pI, 0, none⟩) 40 fI, .int .i64 (g 0), .int .i64 (g 1), .int .i64 (g 2), .int .i64 (g 3)] 29) = wg at hU hV4 hW4 ⊢
      clear hT3 hV3 hW3
      obtain ⟨b0, b1, b2, b3, b4, b5, b6, b7, b8, b9, b10⟩ := (unhide hV4).eleven
      obtain ⟨d0, d1, d2, d3, d4, d5, d6, d7, d8, d9, d10⟩ := (unhide hU).eleven
      have cs := hide (same7_any s g c E (Gd.duo (Gd.row 3 3 0 1) (fun _ => 0)) pC pE pI fC fE fI jC jE jI dC dE dI wg (unhide hU).hold.lists (unhide hV4).hold.lists)
      unfold Gd.world at cs
      go_wp2_with fail
      refine (unhide cs).mono ?_
      rintro e wh ⟨rfl, hg⟩
      have hfin := hide (grown_trans (unhide hU).grown hg)
      clear hg cs
      go_wp2
      go_ret
      exact ⟨rfl, none_below (unhide hfin)⟩
    · have hS1 := hide ((unhide hS').items (J := (Gd.duo (Gd.row 3 2 0 (sl : Int)) (Gd.row 3 3 0 1))) (Gd.ok_duo (Gd.placed_bag (kd := 3) (sl := sl) (by omega) (by omega) hs4) (.inr (Gd.placed_worn (kd := 3) (by omega) (by omega))) (fun h => by have : (2 : Int) = 3 := h.1; omega)))
      have hS2 := hide ((unhide hS').items (J := (Gd.duo (Gd.row 3 3 0 1) (Gd.row 3 2 0 (sl : Int)))) (Gd.ok_duo (Gd.placed_worn (kd := 3) (by omega) (by omega)) (.inr (Gd.placed_bag (kd := 3) (sl := sl) (by omega) (by omega) hs4)) (fun h => by have : (3 : Int) = 2 := h.1; omega)))
      have cd1 : Hid (∀ x, Gd.Lists x gC gE gI c E (Gd.duo (Gd.row 3 2 0 (sl : Int)) (Gd.row 3 3 0 1)) → Calls Try.prog 13 #[.agg (Gd.world s gC gE gI cC cE cI g), .int .i64 0, .int .i64 7] x (Gd.Worlds x s g c E (Gd.duo (Gd.row 3 3 0 1) (Gd.row 3 2 0 (sl : Int))))) := fun x hx => do_items s g c E _ _ gC gE gI cC cE cI _ kc 0 7 (unhide hS1) (.inl rfl) (Gd.wear_duo5 (kd := 3) (sl := sl) (by omega) (by omega) hs4) x hx
      have cd2 : Hid (∀ x jC jE jI dC dE dI, Gd.Lists x jC jE jI c E (Gd.duo (Gd.row 3 3 0 1) (Gd.row 3 2 0 (sl : Int))) → Calls Try.prog 13 #[.agg (Gd.world s jC jE jI dC dE dI g), .int .i64 0, .int .i64 7] x (Gd.Worlds x s g c E (Gd.duo (Gd.row 3 2 0 (sl : Int)) (Gd.row 3 3 0 1)))) := fun x jC jE jI dC dE dI hx => do_items s g c E _ _ jC jE jI dC dE dI _ kc 0 7 (unhide hS2) (.inl rfl) (Gd.wear_duo9 (kd := 3) (sl := sl) (by omega) (by omega) hs4) x hx
      have cb : Hid (∀ x jC jE jI dC dE dI, Gd.Lists x jC jE jI c E (Gd.duo (Gd.row 3 3 0 1) (Gd.row 3 2 0 (sl : Int))) → Calls Try.prog 19 #[.agg (Gd.world s jC jE jI dC dE dI g), .int .i64 0] x (Says x (.tuple #[.int .i64 0, .int .i64 2]))) := fun x jC jE jI dC dE dI hx => by
        have h := bonus_any s g c E (Gd.duo (Gd.row 3 3 0 1) (Gd.row 3 2 0 (sl : Int))) jC jE jI dC dE dI 0 x hx
        rw [show (Gd.duo (Gd.row 3 3 0 1) (Gd.row 3 2 0 (sl : Int))) = Gd.duo (Gd.row 3 3 0 (3 - 2)) (Gd.row 3 2 0 (sl : Int)) from rfl, Gd.worn_duo (by show (2 : Int) ≠ 3; omega), Gd.worn_duo (by show (2 : Int) ≠ 3; omega)] at h
        exact h
      have hWp := hide (((unhide hW).put 5 3 2 0 (sl : Int)).put 9 3 3 0 1)
      clear hS'
      unfold Gd.world at cd1 cd2 cb
      go_wp2_with fail
      refine (unhide cd1 _ ((unhide hWp).hold.lists.on (World.grownBy_alloc _ _ _))).mono ?_
      rintro e wc ⟨jC, jE, jI, dC, dE, dI, rfl, hcap, l1, l2, l3, n1, n2, n3, hL, hg⟩
      have hWc := hide (((unhide hWp).on (World.grownBy_alloc _ _ _)).on hg)
      have hV := hide (Gd.law_new (s := s) (g := g) (cC := dC) (cI := dI) (((unhide hWp).on (World.grownBy_alloc _ _ _)).grown) hcap l1 l2 l3 n1 n2 n3 hL hg)
      clear hcap l1 l2 l3 n1 n2 n3 hL hg cd1 hWp hW q6 fI lI r20 r21 r22 r23 r36 r37 r38 r39 b0 b1 b2 b3 b4 b5 b7 b8 b9 b10 lT hTI hIT
      unfold Gd.world at hV ⊢
      go_wp2_with fail
      obtain ⟨T2, hT2⟩ : ∃ T2, wc.heap.size = T2 := ⟨_, rfl⟩
      have hWd := hide ((unhide hWc).on (World.grownBy_alloc wc (.cells #[.int .i64 (s 0), .int .i64 (s 1), .int .i64 (s 2), .int .i64 (s 3), .slice (some ⟨jC, 0, none⟩) 384 dC, .slice (some ⟨jE, 0, none⟩) 32 dE, .slice (some ⟨jI, 0, none⟩) 40 dI, .int .i64 (g 0), .int .i64 (g 1), .int .i64 (g 2), .int .i64 (g 3)] 29) none))
      rw [hT2] at hV ⊢
      generalize wc.alloc (.cells #[.int .i64 (s 0), .int .i64 (s 1), .int .i64 (s 2), .int .i64 (s 3), .slice (some ⟨jC, 0, none⟩) 384 dC, .slice (some ⟨jE, 0, none⟩) 32 dE, .slice (some ⟨jI, 0, none⟩) 40 dI, .int .i64 (g 0), .int .i64 (g 1), .int .i64 (g 2), .int .i64 (g 3)] 29) = wd at hV hWd ⊢
      clear hT2 hWc
      refine (unhide cb _ _ _ _ _ _ _ (unhide hV).hold.lists).mono ?_
      rintro e we ⟨rfl, hg⟩
      have hV2 := hide ((unhide hV).on hg)
      have hW2 := hide ((unhide hWd).on hg)
      clear hg hV hWd cb wd
      obtain ⟨b0, b1, b2, b3, b4, b5, b6, b7, b8, b9, b10⟩ := (unhide hV2).eleven
      have v21 := (unhide hV2).at 21 (by omega) 3 rfl
      go_wp2_with fail
      refine (unhide cd2 _ _ _ _ _ _ _ (unhide hV2).hold.lists).mono ?_
      rintro e wf ⟨pC, pE, pI, fC, fE, fI, rfl, hcap, l1, l2, l3, n1, n2, n3, hL, hg⟩
      have hV3 := hide ((unhide hV2).on hg)
      have hW3 := hide ((unhide hW2).on hg)
      have hU := hide (Gd.law_new (s := s) (g := g) (cC := fC) (cI := fI) (unhide hV2).grown hcap l1 l2 l3 n1 n2 n3 hL hg)
      clear hcap l1 l2 l3 n1 n2 n3 hL hg cd2 hV2 hW2 b0 b1 b2 b3 b4 b5 b6 b7 b8 b9 b10 v21 we
      unfold Gd.world at hU ⊢
      go_upto_region 16 with fail
      obtain ⟨T3, hT3⟩ : ∃ T3, wf.heap.size = T3 := ⟨_, rfl⟩
      have hV4 := hide ((unhide hV3).on (World.grownBy_alloc wf (.cells #[.int .i64 (s 0), .int .i64 (s 1), .int .i64 (s 2), .int .i64 (s 3), .slice (some ⟨pC, 0, none⟩) 384 fC, .slice (some ⟨pE, 0, none⟩) 32 fE, .slice (some ⟨pI, 0, none⟩) 40 fI, .int .i64 (g 0), .int .i64 (g 1), .int .i64 (g 2), .int .i64 (g 3)] 29) none))
      have hW4 := hide ((unhide hW3).on (World.grownBy_alloc wf (.cells #[.int .i64 (s 0), .int .i64 (s 1), .int .i64 (s 2), .int .i64 (s 3), .slice (some ⟨pC, 0, none⟩) 384 fC, .slice (some ⟨pE, 0, none⟩) 32 fE, .slice (some ⟨pI, 0, none⟩) 40 fI, .int .i64 (g 0), .int .i64 (g 1), .int .i64 (g 2), .int .i64 (g 3)] 29) none))
      rw [hT3] at hU ⊢
      generalize wf.alloc (.cells #[.int .i64 (s 0), .int .i64 (s 1), .int .i64 (s 2), .int .i64 (s 3), .slice (some ⟨pC, 0, none⟩) 384 fC, .slice (some ⟨pE, 0, none⟩) 32 fE, .slice (some ⟨pI, 0, none⟩) 40 fI, .int .i64 (g 0), .int .i64 (g 1), .int .i64 (g 2), .int .i64 (g 3)] 29) = wg at hU hV4 hW4 ⊢
      clear hT3 hV3 hW3
      obtain ⟨b0, b1, b2, b3, b4, b5, b6, b7, b8, b9, b10⟩ := (unhide hV4).eleven
      obtain ⟨d0, d1, d2, d3, d4, d5, d6, d7, d8, d9, d10⟩ := (unhide hU).eleven
      have v37 := (unhide hV4).at 37 (by omega) 2 rfl
      have v39 := (unhide hV4).at 39 (by omega) (sl : Int) rfl
      obtain ⟨z0, z1, z2, z3, z4, z5, z6, z7, z8, z9, z10⟩ := (unhide hW4).eleven
      have cs := hide (same7_any s g c E (Gd.duo (Gd.row 3 2 0 (sl : Int)) (Gd.row 3 3 0 1)) pC pE pI fC fE fI gC gE gI cC cE cI wg (unhide hU).hold.lists (unhide hW4).hold.lists)
      unfold Gd.world at cs
      go_wp2_with fail
      refine (unhide cs).mono ?_
      rintro e wh ⟨rfl, hg⟩
      have hfin := hide (grown_trans (unhide hU).grown hg)
      clear hg cs
      go_wp2
      go_ret
      exact ⟨rfl, none_below (unhide hfin)⟩

set_option maxRecDepth 100000 in
theorem lifted (os : Os) (started : os.Started) (H : Type) (enc : TypeId × Value → H) :
    ReturnsInHanded {} Try.checked os 7 .any (Rows.goodsWearsSpec.pre6 enc Try.prog Try.f7 Rows.goodsWearsRow.domain false) (Rows.goodsWearsSpec.post enc Try.prog Try.f7 false true false false) := by
  refine returnsInHanded_of_change (C := Try.checked) own started (by kernel_rfl) Try.func7
    (ChangeSpec.witness6 (enc := enc) (C := Try.checked) false ⟨#[], #[.int .i64 0, .bool false, .int .i64 0, .bool false], []⟩ 8 (by kernel_rfl) (by kernel_rfl) (by kernel_rfl) (by kernel_rfl)) ?_
  intro W base args ds gs before hval0 hW hcnd _
  have hval : ∀ (j : Nat) t v, Try.f7.params[j]? = some t → args[j]? = some v → Value.okWide Try.prog W .any base t v := hval0
  have hW' := hW
  obtain ⟨p, q, hA0, hV, rfl, hfz, hnd⟩ := hW
  have hA : DataW.TrodAll enc Try.prog W 0 (fun _ => true) true Try.f7.params.toList args.toList ds p := hA0
  rw [Try.params7] at hA hval
  obtain ⟨v0, vs0, d0, ds0, p0, q0, hargs, rfl, rfl, h0, r0⟩ := trodAll_cons hA
  obtain ⟨v1, vs1, d1, ds1, p1, q1, rfl, rfl, rfl, h1, r1⟩ := trodAll_cons r0
  obtain ⟨v2, vs2, d2, ds2, p2, q2, rfl, rfl, rfl, h2, r2⟩ := trodAll_cons r1
  obtain ⟨v3, vs3, d3, ds3, p3, q3, rfl, rfl, rfl, h3, r3⟩ := trodAll_cons r2
  obtain ⟨rfl, rfl, rfl⟩ := trodAll_nil r3
  obtain rfl : args = #[v0, v1, v2, v3] := by cases args; simp_all
  obtain ⟨rfl, rfl⟩ := trodVars_none hV
  obtain ⟨a0, rfl, rfl, rfl, w0⟩ := open_int Try.underlying2 (hval 0 2 v0 rfl rfl) h0
  obtain ⟨a1, rfl, rfl, rfl⟩ := open_bool Try.underlying4 (hval 1 4 v1 rfl rfl) h1
  obtain ⟨a2, rfl, rfl, rfl, w2⟩ := open_int Try.underlying3 (hval 2 3 v2 rfl rfl) h2
  obtain ⟨a3, rfl, rfl, rfl⟩ := open_bool Try.underlying4 (hval 3 4 v3 rfl rfl) h3
  clear hA0 hval0
  refine (walk a0 a1 a2 a3 w0 w2 W).mono fun e W' ⟨he, hg⟩ => ?_
  subst he
  exact ⟨_, rfl, _, _, _, [], _, [], hW', trodAll_mk1 (shut_bool Try.underlying4 _), (trodAll_cons_mk (shut_int Try.underlying2 w0) (trodAll_cons_mk (shut_bool Try.underlying4 _) (trodAll_cons_mk (shut_int Try.underlying3 w2) (trodAll_cons_mk (shut_bool Try.underlying4 _) trodAll_mk0)))), rfl, hg.frame _, fun h => by cases h⟩

theorem over : Rows.goodsWearsRow.holds Try.pinned (OpenSpec.ofChange Rows.goodsWearsSpec) :=
  OpenClaim.holds_of_wide 7 Try.f7 rfl rfl rfl rfl rfl rfl rfl ⟨rfl, rfl, rfl, rfl, rfl⟩ rfl rfl rfl rfl rfl (by kernel_rfl) Try.func7 (by kernel_rfl)
    (of_decide_eq_true (by kernel_rfl)) (by unfold Func.isWrapper; first | (rw [if_pos (by decide +kernel)]; kernel_rfl) | (rw [if_neg (by decide +kernel)]; exact ⟨rfl, rfl⟩))
    (fun os started H enc _ => lifted os started H enc)

theorem proved : Rows.GoodsWearsSaid :=
  over
#print axioms proved
end Go.Proofs.Ythngbjmiblbohaa.goodsWears
