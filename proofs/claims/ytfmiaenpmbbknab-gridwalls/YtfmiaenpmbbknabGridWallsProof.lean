/-
  For any column, any gap and any row the law GridWalls answers true: behind a wall from edge to edge nothing is reached, through one gap all is, and further; no condition.
-/
import Derived.Test.YtfmiaenpmbbknabRows
import Derived.WalkKit
import Derived.ProofKit
import Derived.OpenShut
import Derived.Test.YtfmiaenpmbbknabGridFar
import Derived.Below
import Derived.ChangeOld
import Derived.ShutString
namespace Go.Proofs.Ytfmiaenpmbbknab.gridWalls
open Go.ChangeShapes Go.WideShapes Go.ChangeAt Go.RowKit
open Go.ChangeMaps (open_string shut_string)
set_option linter.unusedVariables false

theorem own : ownKnob Try.prog.godebug = none := by kernel_rfl

def c1 (C k i : Nat) : Int := if i % 24 = C ∧ i / 24 < k then 0 else 1
def c2 (C P i : Nat) : Int := if i = P then 2 else if i % 24 = C then 0 else 1
def isP (P i : Nat) : Bool := decide (i = P)

theorem c1_bd (C k i : Nat) : 0 ≤ c1 C k i ∧ c1 C k i ≤ 255 := by unfold c1; split <;> omega
theorem c2_bd (C P i : Nat) : 0 ≤ c2 C P i ∧ c2 C P i ≤ 255 := by unfold c2; split; omega; split <;> omega

theorem walk_2 : Gr.walkB 2 = true := by decide
theorem walk_1 : Gr.walkB 1 = true := by decide
theorem walk_0 : Gr.walkB 0 = false := by decide

theorem op1 (C : Nat) (g : Nat → Bool) (i : Nat) (hi : i < 384) : Gr.openB (c1 C 16) 0 g i = true ↔ i % 24 ≠ C := by
  by_cases h : i % 24 = C
  · have e : c1 C 16 i = 0 := if_pos ⟨h, by omega⟩
    rw [Gr.open_no (by rw [e]; exact walk_0)]
    simp [h]
  · have e : c1 C 16 i = 1 := if_neg (by omega)
    rw [Gr.open_past (by rw [e]; exact walk_1) (by omega)]
    simp [h]

theorem op2 (C P : Nat) (g : Nat → Bool) (i : Nat) : Gr.openB (c2 C P) 0 g i = true ↔ i % 24 ≠ C ∨ i = P := by
  by_cases hp : i = P
  · have e : c2 C P i = 2 := if_pos hp
    rw [Gr.open_past (by rw [e]; exact walk_2) (by omega)]
    simp [hp]
  · by_cases h : i % 24 = C
    · have e : c2 C P i = 0 := by unfold c2; rw [if_neg hp, if_pos h]
      rw [Gr.open_no (by rw [e]; exact walk_0)]
      simp [h, hp]
    · have e : c2 C P i = 1 := by unfold c2; rw [if_neg hp, if_neg h]
      rw [Gr.open_past (by rw [e]; exact walk_1) (by omega)]
      simp [h]

theorem op3 (C P : Nat) (hP : P % 24 = C) (i : Nat) (hi : i < 384) : Gr.openB (c2 C P) 384 (isP P) i = true ↔ i % 24 ≠ C := by
  by_cases hp : i = P
  · have e : c2 C P i = 2 := if_pos hp
    rw [Gr.open_in (by rw [e]; exact walk_2) hi]
    simp [isP, hp, hP]
  · by_cases h : i % 24 = C
    · have e : c2 C P i = 0 := by unfold c2; rw [if_neg hp, if_pos h]
      rw [Gr.open_no (by rw [e]; exact walk_0)]
      simp [h]
    · have e : c2 C P i = 1 := by unfold c2; rw [if_neg hp, if_neg h]
      rw [Gr.open_in (by rw [e]; exact walk_1) hi]
      simp [isP, hp, h]

theorem c1_more (C k p j : Nat) (hC : C < 24) (hp : p = k * 24 + C) (hj : j < 384) : (if j = p then Value.int .u8 0 else Byts (c1 C k) j) = Byts (c1 C (k + 1)) j := by
  show (if j = p then Value.int .u8 0 else .int .u8 (c1 C k j)) = .int .u8 (c1 C (k + 1) j)
  unfold c1
  by_cases h : j = p
  · rw [if_pos h, if_pos (by omega)]
  · rw [if_neg h]
    by_cases h2 : j % 24 = C ∧ j / 24 < k
    · rw [if_pos h2, if_pos (by omega)]
    · rw [if_neg h2, if_neg (by omega)]

theorem c2_of (C P j : Nat) (hj : j < 384) : (if j = P then Value.int .u8 2 else Byts (c1 C 16) j) = Byts (c2 C P) j := by
  show (if j = P then Value.int .u8 2 else .int .u8 (c1 C 16 j)) = .int .u8 (c2 C P j)
  unfold c1 c2
  by_cases h : j = P
  · rw [if_pos h, if_pos h]
  · rw [if_neg h, if_neg h]
    by_cases h2 : j % 24 = C
    · rw [if_pos ⟨h2, by omega⟩, if_pos h2]
    · rw [if_neg (fun h => h2 h.1), if_neg h2]

theorem isP_of (P j : Nat) : (if j = P then Value.bool true else .bool false) = Bols (isP P) j := by
  show _ = Value.bool (decide (j = P))
  by_cases h : j = P
  · rw [if_pos h, decide_eq_true h]
  · rw [if_neg h, decide_eq_false h]

theorem aside {w : World} {g g' i n : Nat} {T : TypeId} {F : Nat → Value} (h : Arr w g T n F) (u : Value) (hne : g ≠ g') : Arr (w.setCell ⟨g', i, none⟩ u) g T n F := by
  obtain ⟨cur, h1, hs, hc⟩ := h
  exact ⟨cur, (heap_setCell_other w ⟨g', i, none⟩ g u hne).trans h1, hs, hc⟩

theorem int_at (w : World) (v : Int) (B : Nat) (hB : B = w.heap.size) : Vec (w.heap.size + 1) (w.alloc (.cells #[.int .i64 v] 3)) (some ⟨B, 0, none⟩) 1 (Ints fun _ => v) := by
  subst hB
  exact int_one w v

theorem info_bool : (Try.prog.info? 4).map (fun i => (i.zero, i.size, i.bytes)) = some (some (.bool false), 1, 1) := by kernel_rfl

set_option maxRecDepth 8000 in
set_option maxHeartbeats 4000000 in

theorem walk (a0 : Int) (a1 : Int) (a2 : Int) (w0 : (Lit.int .i64 a0).wf = true) (w1 : (Lit.int .i64 a1).wf = true) (w2 : (Lit.int .i64 a2).wf = true) (w : World) :
    Calls Try.prog 3 #[.int .i64 a0, .int .i64 a1, .int .i64 a2] w fun e w' => e = .returned (.bool true) ∧ Below w.heap.size w w' := by
  clear w0 w1 w2
  obtain ⟨j0, hi, hz0, hz1, hz2⟩ := info_parts info_bool
  go_enter Try.func3, Try.ntmps3
  go_wp2_with fail
  refine (known_any _).mono ?_
  rintro e wk ⟨rfl, bel⟩
  go_wp2_with fail
  refine (within_ex _ _ _ (by omega) (by omega)).mono ?_
  rintro e w' ⟨zc, rfl, zc1, zc2, hw⟩
  subst w'
  obtain ⟨C, hC⟩ : ∃ C : Nat, 1 + zc = (C : Int) := ⟨(1 + zc).toNat, by omega⟩
  have hC1 : 1 ≤ C := by omega
  have hC2 : C ≤ 22 := by omega
  go_wp2_with fail
  refine (within_ex _ _ _ (by omega) (by omega)).mono ?_
  rintro e w' ⟨zg, rfl, zg1, zg2, hw⟩
  subst w'
  obtain ⟨gp, rfl⟩ : ∃ a : Nat, zg = (a : Int) := ⟨zg.toNat, by omega⟩
  have hgp : gp < 16 := by omega
  go_wp2_with fail
  clear hC zc1 zc2
  have b1 : Below w.heap.size w (wk.alloc (.cells #[.int .u8 1] 5)) := bel.alloc bel.size _
  refine (full_any (wk.heap.size + 1) _ _ _ (fun _ => 1) _ (byte_one wk 1) (fun _ => by omega) (by simp)).mono ?_
  rintro e wa ⟨gA, rfl, hgA, hA, bela⟩
  have b2 := b1.trans (bela.mono b1.size)
  have hgW : w.heap.size ≤ gA := by have := b1.size; omega
  have hA' := hide (hA.congr (G := Byts (c1 C 0)) fun i _ => by show Value.int .u8 (Gr.full 1 (fun _ => 1) i) = .int .u8 (c1 C 0 i); rw [Gr.full_one _ rfl]; unfold c1; rw [if_neg (by omega)])
  clear hA b1 bela bel hgA
  go_wp2_with fail
  go_loopw [8] (fun i wr => ∃ k : Nat, k ≤ 16 ∧ i = .int .i64 k ∧ Arr wr gA 5 384 (Byts (c1 C k)) ∧ Below w.heap.size w wr) (fun i _ => 16 - (intOf i).toNat)
  case atStart => exact ⟨0, Nat.zero_le _, rfl, unhide hA', b2⟩
  case round =>
    obtain ⟨k, hk, rfl, hA1, hB1⟩ := hrel
    have hA2 := hide hA1
    clear hA1 hA' b2
    by_cases hlt : k < 16
    · obtain ⟨p, hp⟩ : ∃ p : Nat, p = k * 24 + C := ⟨_, rfl⟩
      have hp1 : (k : Int) * 24 + (C : Int) = (p : Int) := by omega
      have hp3 : p < 384 := by omega
      have hcc := (unhide hA2).cell hp3
      have hff := (unhide hA2).free p
      have hlt' : (k : Int) < 16 := by omega
      have hp2 : (p : Int) < 384 := by omega
      have hp' := hide hp
      clear hp
      go_wp2
      go_roundw
      case rel => exact ⟨k + 1, by omega, by go_num, ((unhide hA2).store p _).congr fun j hj => c1_more C k p j (by omega) (unhide hp') hj, hB1.setCell hgW _⟩
      case measure => simp [intOf]; omega
    · have hge : ¬ (k : Int) < 16 := by omega
      obtain rfl : k = 16 := by omega
      clear hlt hk
      go_wp2_with fail
      clear hge
      refine (within_ex _ _ _ (by omega) (by omega)).mono ?_
      rintro e w' ⟨zr, rfl, zr1, zr2, hw⟩
      subst w'
      obtain ⟨A, hA0⟩ : ∃ A : Nat, zr * 24 = (A : Int) := ⟨(zr * 24).toNat, by omega⟩
      have hA3 : A < 384 := by omega
      have hA4 : A % 24 = 0 := by omega
      go_wp2_with fail
      clear hA0 zr1 zr2
      -- behind the wall
      have bl1 : Below wr.heap.size wr (wr.alloc (.cells #[.int .i64 (A : Int)] 3)) := (Below.refl _ _).alloc (Nat.le_refl _) _
      refine (field_any _ _ _ _ _ _ _ _ (c1 C 16) (fun _ => (A : Int)) (fun _ => false) _ ((((unhide hA2).vec _ (unhide hA2).lt (by unfold maxLen; omega)).kept bl1).mono bl1.size) (c1_bd C 16) ⟨by decide, .inl rfl⟩ ((int_one wr _).mono (by simp)) (fun _ => by omega)).mono ?_
      rintro e w2 ⟨F, ⟨gF, rfl, hgF, hAF, belF⟩, hF⟩
      have bF := bl1.trans (belF.mono bl1.size)
      have b3 : Below w.heap.size w w2 := hB1.trans (bF.mono hB1.size)
      have hAc := hide ((unhide hA2).kept bF (unhide hA2).lt)
      have hAF' := hide hAF
      have tA1 : Gr.walkB (c1 C 16 A) = true := by rw [show c1 C 16 A = 1 from if_neg (by omega)]; exact walk_1
      have hvF := hide (fun i hi => hF.one (Gr.wall_field A C hA3 (by omega) (fun i hi => op1 C _ i hi) (fun i _ => Gr.tgt_one i tA1)) i hi)
      have hne1 : gF ≠ gA := by have := (unhide hA2).lt; have := bl1.size; omega
      clear hA2 hAF hF tA1 bl1 belF bF hB1 hgF
      -- the gap
      obtain ⟨P, hP⟩ : ∃ P : Nat, P = gp * 24 + C := ⟨_, rfl⟩
      have hP1 : (gp : Int) * 24 + (C : Int) = (P : Int) := by omega
      have hP3 : P < 384 := by omega
      have hP24 : P % 24 = C := by omega
      have hcc := (unhide hAc).cell hP3
      have hff := (unhide hAc).free P
      have hP2 : (P : Int) < 384 := by omega
      have hAP : A ≠ P := by intro e; subst e; omega
      have hP' := hide hP
      clear hP
      go_wp2_with fail
      clear hcc hff
      have hAd := hide (((unhide hAc).store P (.int .u8 2)).congr fun j hj => c2_of C P j hj)
      have hAF2 := hide (aside (i := P) (unhide hAF') (.int .u8 2) hne1)
      have b4 : Below w.heap.size w (w2.setCell ⟨gA, P, none⟩ (.int .u8 2)) := b3.setCell hgW _
      obtain ⟨w3, hw3⟩ : ∃ w3, w3 = w2.setCell ⟨gA, P, none⟩ (.int .u8 2) := ⟨_, rfl⟩
      have hs3 : Hid (w2.heap.size = w3.heap.size) := by rw [hw3]; exact (by simp : w2.heap.size = (w2.setCell ⟨gA, P, none⟩ (.int .u8 2)).heap.size)
      rw [← hw3] at hAd hAF2 b4 ⊢
      clear hw3 hAc hAF' b3
      have bl2 : Below w3.heap.size w3 (w3.alloc (.cells #[.int .i64 (A : Int)] 3)) := (Below.refl _ _).alloc (Nat.le_refl _) _
      refine (field_any _ _ _ _ _ _ _ _ (c2 C P) (fun _ => (A : Int)) (fun _ => false) _ ((((unhide hAd).vec _ (unhide hAd).lt (by unfold maxLen; omega)).kept bl2).mono bl2.size) (c2_bd C P) ⟨by decide, .inl rfl⟩ ((int_at w3 _ w2.heap.size (unhide hs3)).mono (by simp)) (fun _ => by omega)).mono ?_
      rintro e w4 ⟨H, ⟨gH, rfl, hgH, hAH, belH⟩, hH⟩
      have bH := bl2.trans (belH.mono bl2.size)
      have b5 : Below w.heap.size w w4 := b4.trans (bH.mono b4.size)
      have hAe := hide ((unhide hAd).kept bH (unhide hAd).lt)
      have hAF3 := hide ((unhide hAF2).kept bH (unhide hAF2).lt)
      have hAH' := hide hAH
      have tA2 : Gr.walkB (c2 C P A) = true := by rw [show c2 C P A = 1 by unfold c2; rw [if_neg hAP, if_neg (by omega)]]; exact walk_1
      have hvH := hide (fun i hi => hH.one (Gr.gap_field A P C hA3 (by omega) hP3 hP24 (fun i _ => op2 C P _ i) (fun i _ => Gr.tgt_one i tA2)) i hi)
      clear hAd hAF2 hAH hH bl2 belH bH b4 hgH
      -- the blocks
      go_wp2_with (at_make; refine wpList_make_full _ rfl _ _ 28 rfl w4.heap.size 4 j0 (.bool false) 1 Try.underlying28 hi hz0 hz1 .i64 .i64 _ _ 384 rfl rfl rfl rfl ?q3 ?q4 (Nat.le_refl _) ?_)
      case q3 => rw [hz2]; omega
      case q4 => unfold maxLen; omega
      intro w5 hown hgrow
      have hAB := hide (Arr.zero hown)
      have bB : Below w4.heap.size w4 w5 := (Below.refl _ _).grown hgrow (Nat.le_refl _) (by intro k hk; cases hk)
      obtain ⟨gB, hgB⟩ : ∃ gB, gB = w4.heap.size := ⟨_, rfl⟩
      rw [← hgB] at hAB ⊢
      have b6 : Below w.heap.size w w5 := b5.trans (bB.mono b5.size)
      have hBW : w.heap.size ≤ gB := by have := b5.size; omega
      have hcB := (unhide hAB).cell hP3
      have hfB := (unhide hAB).free P
      have hgB' := hide hgB
      clear hown hgrow hi hz0 hz1 hz2 hgB
      go_wp2_with fail
      clear hcB hfB
      have hAB2 := hide (((unhide hAB).store P (.bool true)).congr fun j _ => isP_of P j)
      have keepB : ∀ {g : Nat} {T : TypeId} {X : Nat → Value}, Arr w4 g T 384 X → Arr (w5.setCell ⟨gB, P, none⟩ (.bool true)) g T 384 X := fun h => aside (h.kept bB h.lt) (.bool true) (by have h1 := h.lt; have h2 := unhide hgB'; omega)
      have hAe2 := hide (keepB (unhide hAe))
      have hAF4 := hide (keepB (unhide hAF3))
      have hAH2 := hide (keepB (unhide hAH'))
      have b7 : Below w.heap.size w (w5.setCell ⟨gB, P, none⟩ (.bool true)) := b6.setCell hBW _
      obtain ⟨w6, hw6⟩ : ∃ w6, w6 = w5.setCell ⟨gB, P, none⟩ (.bool true) := ⟨_, rfl⟩
      have hs6 : Hid (w5.heap.size = w6.heap.size) := by rw [hw6]; exact (by simp : w5.heap.size = (w5.setCell ⟨gB, P, none⟩ (.bool true)).heap.size)
      rw [← hw6] at hAB2 hAe2 hAF4 hAH2 b7 ⊢
      clear hw6 keepB hAe hAF3 hAH' hAB b5 b6 bB
      have bl3 : Below w6.heap.size w6 (w6.alloc (.cells #[.int .i64 (A : Int)] 3)) := (Below.refl _ _).alloc (Nat.le_refl _) _
      refine (field_any _ _ _ _ _ _ _ _ (c2 C P) (fun _ => (A : Int)) (isP P) _ ((((unhide hAe2).vec _ (unhide hAe2).lt (by unfold maxLen; omega)).kept bl3).mono bl3.size) (c2_bd C P) ((((unhide hAB2).vec _ (unhide hAB2).lt (by unfold maxLen; omega)).kept bl3).mono bl3.size) ((int_at w6 _ w5.heap.size (unhide hs6)).mono (by simp)) (fun _ => by omega)).mono ?_
      rintro e w7 ⟨I, ⟨gI, rfl, hgI, hAI, belI⟩, hI⟩
      have bI := bl3.trans (belI.mono bl3.size)
      have b8 : Below w.heap.size w w7 := b7.trans (bI.mono b7.size)
      have aF := hide ((unhide hAF4).kept bI (unhide hAF4).lt)
      have aH := hide ((unhide hAH2).kept bI (unhide hAH2).lt)
      have aI := hide hAI
      have hvI := hide (fun i hi => hI.one (Gr.wall_field A C hA3 (by omega) (fun i hi => op3 C P hP24 i hi) (fun i _ => Gr.tgt_one i tA2)) i hi)
      clear hAe2 hAF4 hAH2 hAB2 hAI hI bl3 belI bI b7 hgI tA2
      have m1 := Gr.manh_0 A P
      have m2 : Gr.manh A P ≤ 100 := by unfold Gr.manh; omega
      go_wp2_with fail
      go_loopw [13] (fun i wr => ∃ k : Nat, k ≤ 384 ∧ i = .int .i64 k ∧ Below w7.heap.size w7 wr) (fun i _ => 384 - (intOf i).toNat)
      case atStart => exact ⟨0, Nat.zero_le _, rfl, Below.refl _ _⟩
      case round =>
        obtain ⟨k, hk, rfl, hb⟩ := hrel
        by_cases hlt : k < 384
        · have cF : wr.cell? ⟨gF, k, none⟩ = some (.int .i64 (F k)) := ((unhide aF).kept hb (unhide aF).lt).cell hlt
          have cH : wr.cell? ⟨gH, k, none⟩ = some (.int .i64 (H k)) := ((unhide aH).kept hb (unhide aH).lt).cell hlt
          have cI : wr.cell? ⟨gI, k, none⟩ = some (.int .i64 (I k)) := ((unhide aI).kept hb (unhide aI).lt).cell hlt
          have eF := (unhide hvF) k hlt
          have eH := (unhide hvH) k hlt
          have eI := (unhide hvI) k hlt
          have hlt' : (k : Int) < 384 := by omega
          have m3 := Gr.manh_0 P k
          have m4 : Gr.manh P k ≤ 100 := by unfold Gr.manh; omega
          have m5 := Gr.manh_0 A k
          have r1 : IntKind.i64.wrap ((gp : Int) * 24) = (gp : Int) * 24 := by rw [IntKind.wrap_i64]; omega
          have r2 : IntKind.i64.wrap (P : Int) = (P : Int) := by rw [IntKind.wrap_i64]; omega
          have HL := hide hlt
          clear hlt hk
          rcases (show k % 24 < C ∨ k % 24 = C ∨ C < k % 24 by omega) with hx | hx | hx
          · rw [if_pos hx] at eF
            rw [eF] at cF
            have hd1 : decide ((C : Int) < (k : Int) % 24) = false := by simp only [decide_eq_false_iff_not]; omega
            have hd2 : decide ((k : Int) % 24 < (C : Int)) = true := by simp only [decide_eq_true_eq]; omega
            have hd3 : (k : Int) % 24 < (C : Int) := by omega
            clear hx eF eH eI cH cI
            go_wp2_with fail
            go_quiet ((go_at_call 8; refine Calls.quiet_of_same (far_any _ _ _ ?_ ?_) <;> first | exact hA3 | exact hP3 | exact unhide HL))
            go_wp2
            go_roundw
            case rel => exact ⟨k + 1, by have := unhide HL; omega, by go_num, below_drewN hb _⟩
            case measure => have := unhide HL; simp [intOf]; omega
          · have hd1 : decide ((C : Int) < (k : Int) % 24) = false := by simp only [decide_eq_false_iff_not]; omega
            have hd2 : decide ((k : Int) % 24 < (C : Int)) = false := by simp only [decide_eq_false_iff_not]; omega
            clear hx eF eH eI cH cI cF
            go_wp2_with fail
            go_quiet (fail)
            go_wp2
            go_roundw
            case rel => exact ⟨k + 1, by have := unhide HL; omega, by go_num, below_drewN hb _⟩
            case measure => have := unhide HL; simp [intOf]; omega
          · rw [if_neg (by omega)] at eF eI
            rw [if_neg (by omega), if_neg (by intro e; subst e; omega), if_pos hx] at eH
            rw [eF] at cF
            rw [eI] at cI
            have r3 : IntKind.i64.wrap (Gr.manh A P + Gr.manh P k) = H k := by rw [IntKind.wrap_i64]; omega
            have hd1 : decide ((C : Int) < (k : Int) % 24) = true := by simp only [decide_eq_true_eq]; omega
            have hd3 : (C : Int) < (k : Int) % 24 := by omega
            have hd2 : decide ((k : Int) % 24 < (C : Int)) = false := by simp only [decide_eq_false_iff_not]; omega
            clear hx eF eH eI
            go_wp2_with fail
            go_quiet ((go_at_call 8; refine Calls.quiet_of_same (far_any _ _ _ ?_ ?_) <;> first | exact hA3 | exact hP3 | exact unhide HL))
            go_wp2
            go_roundw
            case rel => exact ⟨k + 1, by have := unhide HL; omega, by go_num, below_drewN hb _⟩
            case measure => have := unhide HL; simp [intOf]; omega
        · have hge : ¬ (k : Int) < 384 := by omega
          clear hlt hk
          go_wp2
          go_ret
          exact ⟨rfl, b8.trans (hb.mono b8.size)⟩

set_option maxRecDepth 100000 in
theorem lifted (os : Os) (started : os.Started) (H : Type) (enc : TypeId × Value → H) :
    ReturnsInHanded {} Try.checked os 3 .any (Rows.gridWallsSpec.pre6 enc Try.prog Try.f3 Rows.gridWallsRow.domain false) (Rows.gridWallsSpec.post enc Try.prog Try.f3 false true false false) := by
  refine returnsInHanded_of_change (C := Try.checked) own started (by kernel_rfl) Try.func3
    (ChangeSpec.witness6 (enc := enc) (C := Try.checked) false ⟨#[], #[.int .i64 0, .int .i64 0, .int .i64 0], []⟩ 8 (by kernel_rfl) (by kernel_rfl) (by kernel_rfl) (by kernel_rfl)) ?_
  intro W base args ds gs before hval0 hW hcnd _
  have hval : ∀ (j : Nat) t v, Try.f3.params[j]? = some t → args[j]? = some v → Value.okWide Try.prog W .any base t v := hval0
  have hW' := hW
  obtain ⟨p, q, hA0, hV, rfl, hfz, hnd⟩ := hW
  have hA : DataW.TrodAll enc Try.prog W 0 (fun _ => true) true Try.f3.params.toList args.toList ds p := hA0
  rw [Try.params3] at hA hval
  obtain ⟨v0, vs0, d0, ds0, p0, q0, hargs, rfl, rfl, h0, r0⟩ := trodAll_cons hA
  obtain ⟨v1, vs1, d1, ds1, p1, q1, rfl, rfl, rfl, h1, r1⟩ := trodAll_cons r0
  obtain ⟨v2, vs2, d2, ds2, p2, q2, rfl, rfl, rfl, h2, r2⟩ := trodAll_cons r1
  obtain ⟨rfl, rfl, rfl⟩ := trodAll_nil r2
  obtain rfl : args = #[v0, v1, v2] := by cases args; simp_all
  obtain ⟨rfl, rfl⟩ := trodVars_none hV
  obtain ⟨a0, rfl, rfl, rfl, w0⟩ := open_int Try.underlying3 (hval 0 3 v0 rfl rfl) h0
  obtain ⟨a1, rfl, rfl, rfl, w1⟩ := open_int Try.underlying3 (hval 1 3 v1 rfl rfl) h1
  obtain ⟨a2, rfl, rfl, rfl, w2⟩ := open_int Try.underlying3 (hval 2 3 v2 rfl rfl) h2
  clear hA0 hval0
  refine (walk a0 a1 a2 w0 w1 w2 W).mono fun e W' ⟨he, hg⟩ => ?_
  subst he
  exact ⟨_, rfl, _, _, _, [], _, [], hW', trodAll_mk1 (shut_bool Try.underlying4 _), (trodAll_cons_mk (shut_int Try.underlying3 w0) (trodAll_cons_mk (shut_int Try.underlying3 w1) (trodAll_cons_mk (shut_int Try.underlying3 w2) trodAll_mk0))), rfl, hg.frame _, fun h => by cases h⟩

theorem over : Rows.gridWallsRow.holds Try.pinned (OpenSpec.ofChange Rows.gridWallsSpec) :=
  OpenClaim.holds_of_wide 3 Try.f3 rfl rfl rfl rfl rfl rfl rfl ⟨rfl, rfl, rfl, rfl, rfl⟩ rfl rfl rfl rfl rfl (by kernel_rfl) Try.func3 (by kernel_rfl)
    (of_decide_eq_true (by kernel_rfl)) (by unfold Func.isWrapper; first | (rw [if_pos (by decide +kernel)]; kernel_rfl) | (rw [if_neg (by decide +kernel)]; exact ⟨rfl, rfl⟩))
    (fun os started H enc _ => lifted os started H enc)

theorem proved : Rows.GridWallsSaid :=
  over
#print axioms proved
end Go.Proofs.Ytfmiaenpmbbknab.gridWalls
