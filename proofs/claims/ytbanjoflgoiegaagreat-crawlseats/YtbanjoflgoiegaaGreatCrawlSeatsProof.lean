/-
  A seat moves by its How: Absent, and any other number but Player's and Robot's, stays; a hero that is there does not come again; who is stunned stays, and is one frame less so: for every seed, How, input and stun, at this commit; no condition.
-/
import Derived.Test.YtbanjoflgoiegaaGreatRows
import Derived.WalkKit
import Derived.ProofKit
import Derived.OpenShut
import Derived.Test.YtbanjoflgoiegaaGreatPart55
import Derived.Test.YtbanjoflgoiegaaGreatPart37
import Derived.Test.YtbanjoflgoiegaaGreatPart02
import Derived.BigQuiet
import Derived.BigRegion
import Derived.Deep.Cut
import Derived.Deep.CutRange
import Derived.Deep.CutBlock
import Derived.Deep.RegionHeld3
import Derived.Deep.MidRow
import Derived.Below
import Derived.ChangeOld
import Derived.ShutString
namespace Go.Proofs.YtbanjoflgoiegaaGreat.crawlSeats
open Go.ChangeShapes Go.WideShapes Go.ChangeAt Go.RowKit
open Go.ChangeMaps (open_string shut_string)
set_option linter.unusedVariables false

theorem own : ownKnob Tryz.prog.godebug = none := by kernel_rfl

theorem Cr.two_rows (x : World) (a b : Nat → Int) : Lie ((x.alloc (.cells (En.cells a) 54)).alloc (.cells (En.cells b) 54)).drew x.heap.size 54 11 (Ints a) ∧ Lie ((x.alloc (.cells (En.cells a) 54)).alloc (.cells (En.cells b) 54)).drew (x.heap.size + 1) 54 11 (Ints b) ∧ x.grownBy ((x.alloc (.cells (En.cells a) 54)).alloc (.cells (En.cells b) 54)).drew none := by
  have g1 := World.grownBy_alloc x (.cells (En.cells a) 54) none
  have g3 := grown_drew1 (World.grownBy_alloc (x.alloc (.cells (En.cells a) 54)) (.cells (En.cells b) 54) none)
  have hb := Lie.copied (x.alloc (.cells (En.cells a) 54)) b 54
  rw [show (x.alloc (.cells (En.cells a) 54)).heap.size = x.heap.size + 1 by simp] at hb
  exact ⟨(Lie.copied x a 54).on g3, hb.on (grown_drew1 (World.grownBy.refl _ none)), grown_trans g1 g3⟩

set_option maxRecDepth 16000 in
set_option maxHeartbeats 3200000 in

theorem walk (a0 : Int) (a1 : Int) (a2 : Int) (a3 : Int) (w0 : (Lit.int .i64 a0).wf = true) (w1 : (Lit.int .i64 a1).wf = true) (w2 : (Lit.int .i64 a2).wf = true) (w3 : (Lit.int .i64 a3).wf = true) (w : World) :
    Calls Tryz.prog 8 #[.int .i64 a0, .int .i64 a1, .int .i64 a2, .int .i64 a3] w fun e w' => e = .returned (.bool true) ∧ Below w.heap.size w w' := by
  have cn := hide (fun wq => cNew_any a0 wq)
  have cW := hide (fun wq => within10_any a3 3 wq (by omega) (by omega))
  obtain ⟨st, hst⟩ : ∃ st, a3 % 3 = st := ⟨_, rfl⟩
  have st0 : Hid (0 ≤ st ∧ st < 3) := (show 0 ≤ st ∧ st < 3 by omega)
  rw [hst] at cW
  clear w0 w1 w2 w3 hst
  go_enter Tryz.func8, Tryz.ntmps8
  go_wp2_with fail
  refine (known10_any _).mono ?_
  rintro e wk ⟨rfl, hgk⟩
  have hgk' := hide hgk
  clear hgk
  go_wp2_with fail
  refine (unhide cn _).mono ?_
  rintro e wa ⟨S, hN, gC, gE, gI, cC, cE, cI, rfl, hcap, l1, l2, l3, n1, n2, n3, hL, hg⟩
  have hW := hide (Gd.law_new (s := S.s) (g := S.g) (cC := cC) (cI := cI) (unhide hgk') hcap.1 l1 l2 l3 n1 n2 n3 hL hg)
  have hN' := hide hN
  clear hcap l1 l2 l3 n1 n2 n3 hL hg hN cn hgk'
  unfold Gd.world at hW ⊢
  go_upto_region 4 with fail
  obtain ⟨T, hT⟩ : ∃ T, wa.heap.size = T := ⟨_, rfl⟩
  rw [hT] at hW ⊢
  clear hT
  generalize wa.alloc (.cells #[.int .i64 (S.s 0), .int .i64 (S.s 1), .int .i64 (S.s 2), .int .i64 (S.s 3), .slice (some ⟨gC, 0, none⟩) 384 cC, .slice (some ⟨gE, 0, none⟩) 32 cE, .slice (some ⟨gI, 0, none⟩) 40 cI, .int .i64 (S.g 0), .int .i64 (S.g 1), .int .i64 (S.g 2), .int .i64 (S.g 3)] 30) = wb at hW ⊢
  clear wa wk
  obtain ⟨wd, hwd⟩ : ∃ wd, wd = wb.alloc (.cells #[.int .i64 0, .int .i64 0, .bool false, .int .i64 0, .int .i64 0, .bool false, .int .i64 0, .int .i64 0, .bool false, .int .i64 0, .int .i64 0, .bool false] 36) := ⟨_, rfl⟩
  have hgd : wb.grownBy wd none := by rw [hwd]; exact World.grownBy_alloc _ _ _
  have hA : Hid (Lie wd wb.heap.size 36 12 (Cr.actF (fun _ => 0) (fun _ => 0) (fun _ => false))) := by rw [hwd]; exact Cr.acts_lie (h := fun _ => 0) (i := fun _ => 0) (b := fun _ => false) (heap_alloc_new wb _)
  have hW2 := hide ((unhide hW).on hgd)
  have lA : Hid (w.heap.size ≤ wb.heap.size) := (unhide hW).grown.size
  clear hgd hW
  go_upto_region 5 with fail
  rw [← hwd]
  clear hwd
  obtain ⟨A, hAe⟩ : ∃ A, wb.heap.size = A := ⟨_, rfl⟩
  rw [hAe] at hA lA ⊢
  clear hAe
  clear wb
  have q2 : wd.cell? ⟨A, 2, none⟩ = some (.bool false) := (unhide hA).cell (c := 2) (by omega)
  have fA := (unhide hA).free
  have hSc : Hid (Cr.Scene w (wd.setCell ⟨A, 2, none⟩ (.bool true)) T A gC gE gI cC cE cI (fun _ => 0) (fun _ => 0) Cr.sp0 S) := Cr.scene_first (unhide hW2) (unhide hA) (unhide lA)
  clear hA hW2 lA
  go_upto_region 6 with fail
  generalize wd.setCell ⟨A, 2, none⟩ (.bool true) = we at hSc ⊢
  clear q2 fA wd
  obtain ⟨b0, b1, b2, b3, b4, b5, b6, b7, b8, b9, b10⟩ := (unhide hSc).law.eleven
  obtain ⟨x0, x1, x2, x3, x4, x5, x6, x7, x8, x9, x10, x11⟩ := (unhide hSc).twelve
  have hfr := (unhide hN').frame
  have cs := hide ((unhide hSc).step (unhide hN').good (by omega) (by omega))
  clear hfr
  dsimp only [Cr.sp0] at x0 x1 x2 x3 x4 x5 x6 x7 x8 x9 x10 x11 cs
  go_wp2_with fail
  refine (unhide cs).mono ?_
  rintro e wf ⟨U, hU, jC, jE, jI, dC, dE, dI, rfl, hcap, l1, l2, l3, n1, n2, n3, hL, hg⟩
  have hff := Cr.first_frame (unhide hN') hU (fun _ _ => ⟨by show ¬ (0 : Int) = 1; omega, by show ¬ (0 : Int) = 2; omega⟩) rfl rfl rfl rfl
  have hgood := hide (hU.good (unhide hN').good).1
  have hUh := hide (Cr.came hff (unhide hgood))
  have hX : Hid (Cr.Scene w (((((((((((wf.setCell ⟨T, 0, none⟩ (.int .i64 (U.s 0))).setCell ⟨T, 1, none⟩ (.int .i64 (U.s 1))).setCell ⟨T, 2, none⟩ (.int .i64 (U.s 2))).setCell ⟨T, 3, none⟩ (.int .i64 (U.s 3))).setCell ⟨T, 4, none⟩ (.slice (some ⟨jC, 0, none⟩) 384 dC)).setCell ⟨T, 5, none⟩ (.slice (some ⟨jE, 0, none⟩) 32 dE)).setCell ⟨T, 6, none⟩ (.slice (some ⟨jI, 0, none⟩) 40 dI)).setCell ⟨T, 7, none⟩ (.int .i64 (U.g 0))).setCell ⟨T, 8, none⟩ (.int .i64 (U.g 1))).setCell ⟨T, 9, none⟩ (.int .i64 (U.g 2))).setCell ⟨T, 10, none⟩ (.int .i64 (U.g 3))) T A jC jE jI dC dE dI (fun _ => 0) (fun _ => 0) Cr.sp0 U) := (unhide hSc).over (dI := dI) hcap l1 l2 l3 n1 n2 n3 hL hg
  obtain ⟨y0, y1, y2, y3, y4, y5, y6, y7, y8, y9, y10⟩ := ((unhide hSc).law.on hg).eleven
  have fT := ((unhide hSc).law.on hg).hold.box.free
  clear hcap l1 l2 l3 n1 n2 n3 hL hg cs b0 b1 b2 b3 b4 b5 b6 b7 b8 b9 b10 x0 x1 x2 x3 x4 x5 x6 x7 x8 x9 x10 x11 hSc hU hN' hff
  unfold Gd.world
  go_upto_region 7 with fail
  generalize (((((((((((wf.setCell ⟨T, 0, none⟩ (.int .i64 (U.s 0))).setCell ⟨T, 1, none⟩ (.int .i64 (U.s 1))).setCell ⟨T, 2, none⟩ (.int .i64 (U.s 2))).setCell ⟨T, 3, none⟩ (.int .i64 (U.s 3))).setCell ⟨T, 4, none⟩ (.slice (some ⟨jC, 0, none⟩) 384 dC)).setCell ⟨T, 5, none⟩ (.slice (some ⟨jE, 0, none⟩) 32 dE)).setCell ⟨T, 6, none⟩ (.slice (some ⟨jI, 0, none⟩) 40 dI)).setCell ⟨T, 7, none⟩ (.int .i64 (U.g 0))).setCell ⟨T, 8, none⟩ (.int .i64 (U.g 1))).setCell ⟨T, 9, none⟩ (.int .i64 (U.g 2))).setCell ⟨T, 10, none⟩ (.int .i64 (U.g 3))) = wg at hX ⊢
  clear y0 y1 y2 y3 y4 y5 y6 y7 y8 y9 y10 fT wf we
  obtain ⟨f, hf32, hh, f1, f2, f9, hs1, hs3, hat⟩ := unhide hUh
  have b5 := (unhide hX).law.eleven.2.2.2.2.2.1
  have ch := hide (refHero7_any jE dE U.E 0 wg (unhide hX).law.hold.lists.own)
  rw [hh] at ch
  go_wp2_with fail
  refine (unhide ch).mono ?_
  rintro e wh ⟨rfl, hg⟩
  have hX1 := hide ((unhide hX).on hg)
  have HF := hide hf32
  have F1 := hide f1
  have F2 := hide f2
  have F9 := hide f9
  have H13 := hide (And.intro hs1 hs3)
  have HAT := hide hat
  have hfp : (f : Int) ≥ 0 := by omega
  obtain ⟨us, ug, uc, E, I⟩ := U
  have hs0 : Hid (Cr.Scene w wh T A jC jE jI dC dE dI (fun _ => 0) (fun _ => 0) Cr.sp0 ⟨us, ug, uc, Cr.soleTo E f 0, I⟩) := by rw [Cr.sole_zero]; exact unhide hX1
  clear hg ch b5 hX hX1 hUh hh f1 f2 f9 hs1 hs3 hat hf32
  go_wp2_with fail
  go_loopw [12] (fun v12 wr => ∃ i : Nat, i ≤ 32 ∧ v12 = .int .i64 (i : Int) ∧ Hid (Cr.Scene w wr T A jC jE jI dC dE dI (fun _ => 0) (fun _ => 0) Cr.sp0 ⟨us, ug, uc, Cr.soleTo E f i, I⟩)) (fun v12 _ => 40 - (intOf v12).toNat)
  case atStart => exact ⟨0, by omega, rfl, hs0⟩
  case round =>
    clear hs0
    obtain ⟨i, hi, rfl, hS⟩ := hrel
    have b5 := (unhide hS).law.eleven.2.2.2.2.2.1
    by_cases hlt : i < 32
    · have hlt' : (i : Int) < 32 := by omega
      have HL := hide hlt
      by_cases hif : i = f
      · subst hif
        have hne : ((i : Int) != (i : Int)) = false := by simp
        have hS2 : Hid (Cr.Scene w wr T A jC jE jI dC dE dI (fun _ => 0) (fun _ => 0) Cr.sp0 ⟨us, ug, uc, Cr.soleTo E i (i + 1), I⟩) := (show Cr.Scene w wr T A jC jE jI dC dE dI (fun _ => 0) (fun _ => 0) Cr.sp0 ⟨us, ug, uc, Cr.soleTo E i (i + 1), I⟩ by rw [← Cr.sole_no]; exact unhide hS)
        clear hlt hi hS
        go_wp2
        go_roundw
        case rel => exact ⟨i + 1, by have := unhide HL; omega, by go_num, hS2⟩
        case measure => simp [intOf]; have := unhide HL; omega
      · have hne : ((i : Int) != (f : Int)) = true := by simp; omega
        have hyes := hide (Cr.sole_yes E hif)
        obtain ⟨G, hG⟩ : ∃ G, Cr.soleTo E f i = G := ⟨_, rfl⟩
        rw [hG] at hS hyes
        clear hlt hi hif hG
        go_upto_region 12 with fail
        clear b5
        have hkeep : Hid (∀ x, wr.grownBy x none → x.cell? ⟨T, 5, none⟩ = some (.slice (some ⟨jE, 0, none⟩) 32 dE) ∧ x.cell? ⟨jE, i * 11 + 1, none⟩ = some (.int .i64 (G i 1))) := fun x hx => ⟨((unhide hS).on hx).law.eleven.2.2.2.2.2.1, (((unhide hS).on hx).law.hold.lists.own.ents.row (unhide HL)).2.1⟩
        have hd := hide (grown_drew1 (World.grownBy.refl wr none))
        have hrow := hide ((unhide hS).row i (En.hole (G i 1)))
        rw [unhide hyes] at hrow
        have hrow2 := hide ((unhide hrow).on (grown_drew1 (World.grownBy.refl _ none)))
        obtain ⟨r0, r1, r2, r3, r4, r5, r6, r7, r8, r9, r10⟩ := (unhide hS).law.hold.lists.own.ents.row (unhide HL)
        have fE := (unhide hS).law.hold.lists.ents.free
        clear hrow
        refine wp_region_till (h := 11) (S := fun x => x.cell? ⟨T, 5, none⟩ = some (.slice (some ⟨jE, 0, none⟩) 32 dE) ∧ x.cell? ⟨jE, i * 11 + 1, none⟩ = some (.int .i64 (G i 1))) (by kernel_rfl) ?_
        have hS0 := unhide hkeep _ (unhide hd)
        refine wpTill_take (i := 0) (v := ?_) [11] rfl (by kernel_rfl) (by kernel_rfl) (by kernel_rfl) (by kernel_rfl) (fun _ _ _ h => h) hS0 (Or.inl ⟨by rfl, ?_⟩) ?_
        rotate_left
        · intro x hSx
          try dsimp only at hSx
          go_simp
          try with_reducible rfl
        simp only [Act.put]
        refine wpTill_take (i := 1) (v := ?_) [11] rfl (by kernel_rfl) (by kernel_rfl) (by kernel_rfl) (by kernel_rfl) (fun _ _ _ h => h) hS0 (Or.inl ⟨by rfl, ?_⟩) ?_
        rotate_left
        · intro x hSx
          try dsimp only at hSx
          go_simp
          try with_reducible rfl
        simp only [Act.put]
        refine wpTill_take (i := 2) (v := ?_) [11] rfl (by kernel_rfl) (by kernel_rfl) (by kernel_rfl) (by kernel_rfl) (fun _ _ _ h => h) hS0 (Or.inl ⟨by rfl, ?_⟩) ?_
        rotate_left
        · intro x hSx
          try dsimp only at hSx
          go_simp
          try with_reducible rfl
        simp only [Act.put]
        refine wpTill_take (i := 3) (v := ?_) [11] rfl (by kernel_rfl) (by kernel_rfl) (by kernel_rfl) (by kernel_rfl) (fun _ _ _ h => h) hS0 (Or.inl ⟨by rfl, ?_⟩) ?_
        rotate_left
        · intro x hSx
          try dsimp only at hSx
          go_simp
          try with_reducible rfl
        simp only [Act.put]
        refine wpTill_take (i := 4) (v := ?_) [11] rfl (by kernel_rfl) (by kernel_rfl) (by kernel_rfl) (by kernel_rfl) (fun _ _ _ h => h) hS0 (Or.inl ⟨by rfl, ?_⟩) ?_
        rotate_left
        · intro x hSx
          try dsimp only at hSx
          go_simp
          try with_reducible rfl
        simp only [Act.put]
        refine wpTill_take (i := 5) (v := ?_) [11] rfl (by kernel_rfl) (by kernel_rfl) (by kernel_rfl) (by kernel_rfl) (fun _ _ _ h => h) hS0 (Or.inl ⟨by rfl, ?_⟩) ?_
        rotate_left
        · intro x hSx
          try dsimp only at hSx
          go_simp
          try with_reducible rfl
        simp only [Act.put]
        refine wpTill_take (i := 6) (v := ?_) [11] rfl (by kernel_rfl) (by kernel_rfl) (by kernel_rfl) (by kernel_rfl) (fun _ _ _ h => h) hS0 (Or.inl ⟨by rfl, ?_⟩) ?_
        rotate_left
        · intro x hSx
          try dsimp only at hSx
          go_simp
          try with_reducible rfl
        simp only [Act.put]
        refine wpTill_take (i := 7) (v := ?_) [11] rfl (by kernel_rfl) (by kernel_rfl) (by kernel_rfl) (by kernel_rfl) (fun _ _ _ h => h) hS0 (Or.inl ⟨by rfl, ?_⟩) ?_
        rotate_left
        · intro x hSx
          try dsimp only at hSx
          go_simp
          try with_reducible rfl
        simp only [Act.put]
        refine wpTill_take (i := 8) (v := ?_) [11] rfl (by kernel_rfl) (by kernel_rfl) (by kernel_rfl) (by kernel_rfl) (fun _ _ _ h => h) hS0 (Or.inl ⟨by rfl, ?_⟩) ?_
        rotate_left
        · intro x hSx
          try dsimp only at hSx
          go_simp
          try with_reducible rfl
        simp only [Act.put]
        refine wpTill_take (i := 9) (v := ?_) [11] rfl (by kernel_rfl) (by kernel_rfl) (by kernel_rfl) (by kernel_rfl) (fun _ _ _ h => h) hS0 (Or.inl ⟨by rfl, ?_⟩) ?_
        rotate_left
        · intro x hSx
          try dsimp only at hSx
          go_simp
          try with_reducible rfl
        simp only [Act.put]
        refine wpTill_take (i := 10) (v := ?_) [11] rfl (by kernel_rfl) (by kernel_rfl) (by kernel_rfl) (by kernel_rfl) (fun _ _ _ h => h) hS0 (Or.inl ⟨by rfl, ?_⟩) ?_
        rotate_left
        · intro x hSx
          try dsimp only at hSx
          go_simp
          try with_reducible rfl
        simp only [Act.put]
        refine wpTill_only (j := 11) (by kernel_rfl) rfl (fun K hK => ?_)
        go_simp
        refine hK.out _ _ (fun hx => absurd (hx.symm.trans (by kernel_rfl)) Bool.false_ne_true) ?_
        clear hK K
        refine wpTill_done (by kernel_rfl) ?_ _
        clear hkeep hS0 hS r0 r1 r2 r3 r4 r5 r6 r7 r8 r9 r10 fE
        go_wp2
        go_roundw
        case rel => exact ⟨i + 1, by have := unhide HL; omega, by go_num, hrow2⟩
        case measure => simp [intOf]; have := unhide HL; omega
    · obtain rfl : i = 32 := by omega
      have hge : ¬ ((32 : Nat) : Int) < 32 := by omega
      clear hlt hi
      have hnn : ¬ (f : Int) < 0 := by omega
      go_wp2_with fail
      refine (unhide cW _).mono ?_
      rintro e wy ⟨rfl, hy⟩
      subst wy
      clear cW
      have hsn := hide (Cr.sole_sane (unhide hgood).sane (unhide HF) (unhide F1) (unhide st0).1 (show st ≤ 9 by have := unhide st0; omega))
      have hk' : (f : Int) < 32 := by have := unhide HF; omega
      have r10 := ((unhide hS).law.hold.lists.own.ents.row (unhide HF)).2.2.2.2.2.2.2.2.2.2
      have fE := (unhide hS).law.hold.lists.ents.free
      have hS3 := hide ((unhide hS).stat f 10 (by omega) st)
      clear hge
      go_upto_region 17 with fail
      generalize wr.setCell ⟨jE, f * 11 + 10, none⟩ (.int .i64 st) = ws at hS3 ⊢
      clear r10 fE b5 hS
      obtain ⟨x0, x1, x2, x3, x4, x5, x6, x7, x8, x9, x10, x11⟩ := (unhide hS3).twelve
      have fA := (unhide hS3).acts.free
      have hS4 := hide ((unhide hS3).act 0 a1 a2 true)
      clear hS3
      go_upto_region 18 with fail
      rw [show (0 * 3 : Nat) = 0 from rfl, show (0 + 1 : Nat) = 1 from rfl, show (0 + 2 : Nat) = 2 from rfl] at hS4
      generalize ((ws.setCell ⟨A, 0, none⟩ (.int .i64 a1)).setCell ⟨A, 1, none⟩ (.int .i64 a2)).setCell ⟨A, 2, none⟩ (.bool true) = wt at hS4 ⊢
      clear x0 x1 x2 x3 x4 x5 x6 x7 x8 x9 x10 x11 fA
      clear ws
      obtain ⟨b0, b1, b2, b3, b4, b5, b6, b7, b8, b9, b10⟩ := (unhide hS4).law.eleven
      obtain ⟨x0, x1, x2, x3, x4, x5, x6, x7, x8, x9, x10, x11⟩ := (unhide hS4).twelve
      have hg2 : Hid (Cr.Good ⟨us, ug, uc, Gd.set (Cr.soleTo E f 32) f 10 st, I⟩) := ⟨(unhide hsn).1, (unhide hgood).floor, (unhide hgood).gold, (unhide hgood).f1, (unhide hgood).f3, (unhide hgood).s0, (unhide hgood).s2⟩
      have h1 : us 1 = 1 := (unhide H13).1
      have cs := hide ((unhide hS4).step (unhide hg2) (by show -9223372036854775808 ≤ us 1; omega) (by show us 1 < 9223372036854775807; omega))
      have hsf : Hid (∀ V, Cr.IsStep (fun k => if k = 0 then a1 else 0) (fun k => if k = 0 then a2 else 0) (fun k => if k = 0 then true else Cr.sp0 k) ⟨us, ug, uc, Gd.set (Cr.soleTo E f 32) f 10 st, I⟩ V → V.E f 0 = 1 ∧ V.E f 10 = max 0 (st - 1) ∧ ((st = 0 ∧ (a1 = 2 ∨ (a1 = 1 ∧ 1 ≤ a2 ∧ a2 ≤ 4))) ∨ (V.E f 3 = E f 3 ∧ V.E f 4 = E f 4))) := fun V hV => by
        have k := (unhide hsn).2.2
        have q := (unhide hsn).2.1
        rw [unhide F2] at q
        have r := Cr.seat_frame (f := f) hV (unhide H13).2 (unhide H13).1 q (fun j _ j0 => by rcases j with _ | j; exact absurd rfl j0; rfl) ((k.1 9 (by omega)).trans (unhide F9)) (by show 0 ≤ Gd.set (Cr.soleTo E f 32) f 10 st f 10; rw [k.2]; exact (unhide st0).1) (by show Gr.at 384 uc (Gd.set (Cr.soleTo E f 32) f 10 st f 3) (Gd.set (Cr.soleTo E f 32) f 10 st f 4) ≠ 4; rw [k.1 3 (by omega), k.1 4 (by omega)]; exact unhide HAT)
        dsimp only at r
        rw [k.2, k.1 3 (by omega), k.1 4 (by omega)] at r
        exact r
      have gxy : Hid (Gd.set (Cr.soleTo E f 32) f 10 st f 3 = E f 3 ∧ Gd.set (Cr.soleTo E f 32) f 10 st f 4 = E f 4) := And.intro ((unhide hsn).2.2.1 3 (by omega)) ((unhide hsn).2.2.1 4 (by omega))
      dsimp only [Cr.sp0] at x0 x1 x2 x3 x4 x5 x6 x7 x8 x9 x10 x11 cs b0 b1 b2 b3 b4 b5 b6 b7 b8 b9 b10
      simp only [if_true, Nat.one_ne_zero, if_false, (show ¬ (2 : Nat) = 0 by omega), (show ¬ (3 : Nat) = 0 by omega)] at x0 x1 x2 x3 x4 x5 x6 x7 x8 x9 x10 x11 cs
      clear h1
      go_wp2_with fail
      refine (unhide cs).mono ?_
      rintro e wu ⟨V, hV, kC, kE, kI, mC, mE, mI, rfl, hcap, l1, l2, l3, n1, n2, n3, hL, hg⟩
      obtain ⟨z0, z10, zm⟩ := unhide hsf V hV
      have Z0 := hide z0
      have Z10 := hide z10
      have ZM := hide zm
      have hW := hide (Gd.law_new (s := V.s) (g := V.g) (cC := mC) (cI := mI) (unhide hS4).law.grown hcap.1 l1 l2 l3 n1 n2 n3 hL hg)
      have hO := hide ((unhide hS4).law.on (grown_trans hg (World.grownBy_alloc wu (.cells #[.int .i64 (V.s 0), .int .i64 (V.s 1), .int .i64 (V.s 2), .int .i64 (V.s 3), .slice (some ⟨kC, 0, none⟩) 384 mC, .slice (some ⟨kE, 0, none⟩) 32 mE, .slice (some ⟨kI, 0, none⟩) 40 mI, .int .i64 (V.g 0), .int .i64 (V.g 1), .int .i64 (V.g 2), .int .i64 (V.g 3)] 30) none)))
      clear z0 z10 zm hcap l1 l2 l3 n1 n2 n3 hL hg hV hsf cs hg2 hsn x0 x1 x2 x3 x4 x5 x6 x7 x8 x9 x10 x11 b0 b1 b2 b3 b4 b5 b6 b7 b8 b9 b10 hS4 hgood F1 F2 F9 H13 HAT
      unfold Gd.world at hW ⊢
      go_upto_region 19 with fail
      obtain ⟨X, hXe⟩ : ∃ X, wu.heap.size = X := ⟨_, rfl⟩
      rw [hXe] at hW ⊢
      clear hXe
      generalize wu.alloc (.cells #[.int .i64 (V.s 0), .int .i64 (V.s 1), .int .i64 (V.s 2), .int .i64 (V.s 3), .slice (some ⟨kC, 0, none⟩) 384 mC, .slice (some ⟨kE, 0, none⟩) 32 mE, .slice (some ⟨kI, 0, none⟩) 40 mI, .int .i64 (V.g 0), .int .i64 (V.g 1), .int .i64 (V.g 2), .int .i64 (V.g 3)] 30) = wv at hW hO ⊢
      clear wu wt
      try dsimp only at hO
      generalize Gd.set (Cr.soleTo E f 32) f 10 st = G at hO gxy ⊢
      obtain ⟨vs, vg, vc, F, J⟩ := V
      try dsimp only at hW
      try dsimp only at Z0
      try dsimp only at Z10
      try dsimp only at ZM
      try dsimp only
      have hS0 : wv.cell? ⟨T, 5, none⟩ = some (.slice (some ⟨jE, 0, none⟩) 32 dE) ∧ wv.cell? ⟨X, 5, none⟩ = some (.slice (some ⟨kE, 0, none⟩) 32 mE) ∧ (wv.cell? ⟨jE, f * 11, none⟩ = some (.int .i64 (G f 0)) ∧ wv.cell? ⟨jE, f * 11 + 1, none⟩ = some (.int .i64 (G f 1)) ∧ wv.cell? ⟨jE, f * 11 + 2, none⟩ = some (.int .i64 (G f 2)) ∧ wv.cell? ⟨jE, f * 11 + 3, none⟩ = some (.int .i64 (G f 3)) ∧ wv.cell? ⟨jE, f * 11 + 4, none⟩ = some (.int .i64 (G f 4)) ∧ wv.cell? ⟨jE, f * 11 + 5, none⟩ = some (.int .i64 (G f 5)) ∧ wv.cell? ⟨jE, f * 11 + 6, none⟩ = some (.int .i64 (G f 6)) ∧ wv.cell? ⟨jE, f * 11 + 7, none⟩ = some (.int .i64 (G f 7)) ∧ wv.cell? ⟨jE, f * 11 + 8, none⟩ = some (.int .i64 (G f 8)) ∧ wv.cell? ⟨jE, f * 11 + 9, none⟩ = some (.int .i64 (G f 9)) ∧ wv.cell? ⟨jE, f * 11 + 10, none⟩ = some (.int .i64 (G f 10))) ∧ (wv.cell? ⟨kE, f * 11, none⟩ = some (.int .i64 (F f 0)) ∧ wv.cell? ⟨kE, f * 11 + 1, none⟩ = some (.int .i64 (F f 1)) ∧ wv.cell? ⟨kE, f * 11 + 2, none⟩ = some (.int .i64 (F f 2)) ∧ wv.cell? ⟨kE, f * 11 + 3, none⟩ = some (.int .i64 (F f 3)) ∧ wv.cell? ⟨kE, f * 11 + 4, none⟩ = some (.int .i64 (F f 4)) ∧ wv.cell? ⟨kE, f * 11 + 5, none⟩ = some (.int .i64 (F f 5)) ∧ wv.cell? ⟨kE, f * 11 + 6, none⟩ = some (.int .i64 (F f 6)) ∧ wv.cell? ⟨kE, f * 11 + 7, none⟩ = some (.int .i64 (F f 7)) ∧ wv.cell? ⟨kE, f * 11 + 8, none⟩ = some (.int .i64 (F f 8)) ∧ wv.cell? ⟨kE, f * 11 + 9, none⟩ = some (.int .i64 (F f 9)) ∧ wv.cell? ⟨kE, f * 11 + 10, none⟩ = some (.int .i64 (F f 10))) := ⟨(unhide hO).eleven.2.2.2.2.2.1, (unhide hW).eleven.2.2.2.2.2.1, (unhide hO).hold.lists.own.ents.row (unhide HF), (unhide hW).hold.lists.own.ents.row (unhide HF)⟩
      go_cut [14, 15] from 71 (fun va vb wx => ∃ P Q, va = .pointer (some ⟨P, 0, none⟩) ∧ vb = .pointer (some ⟨Q, 0, none⟩) ∧ Hid (w.grownBy wx none) ∧ Hid (Lie wx P 54 11 (Ints (G f))) ∧ Hid (Lie wx Q 54 11 (Ints (F f))))
      case first =>
        have k1 := (unhide hO).hold.box.lt
        have k2 := (unhide hO).hold.lists.ents.lt
        have k3 := (unhide hW).hold.box.lt
        have k4 := (unhide hW).hold.lists.ents.lt
        have o1 : wv.heap.size ≠ T := by omega
        have o2 : T ≠ wv.heap.size := by omega
        have o3 : wv.heap.size ≠ X := by omega
        have o4 : X ≠ wv.heap.size := by omega
        have o5 : wv.heap.size ≠ jE := by omega
        have o6 : jE ≠ wv.heap.size := by omega
        have o7 : wv.heap.size ≠ kE := by omega
        have o8 : kE ≠ wv.heap.size := by omega
        have o9 : wv.heap.size + 1 ≠ T := by omega
        have o10 : T ≠ wv.heap.size + 1 := by omega
        have o11 : wv.heap.size + 1 ≠ X := by omega
        have o12 : X ≠ wv.heap.size + 1 := by omega
        have o13 : wv.heap.size + 1 ≠ jE := by omega
        have o14 : jE ≠ wv.heap.size + 1 := by omega
        have o15 : wv.heap.size + 1 ≠ kE := by omega
        have o16 : kE ≠ wv.heap.size + 1 := by omega
        have ho1 := hide (Cr.two_rows wv (G f) (F f))
        have ho2 := hide (Cr.two_rows wv (F f) (G f))
        have hgw := hide (unhide hO).grown
        clear k1 k2 k3 k4 hO hW
        unfold En.cells at ho1 ho2
        go_region_held3 (fun x => x.cell? ⟨T, 5, none⟩ = some (.slice (some ⟨jE, 0, none⟩) 32 dE) ∧ x.cell? ⟨X, 5, none⟩ = some (.slice (some ⟨kE, 0, none⟩) 32 mE) ∧ (x.cell? ⟨jE, f * 11, none⟩ = some (.int .i64 (G f 0)) ∧ x.cell? ⟨jE, f * 11 + 1, none⟩ = some (.int .i64 (G f 1)) ∧ x.cell? ⟨jE, f * 11 + 2, none⟩ = some (.int .i64 (G f 2)) ∧ x.cell? ⟨jE, f * 11 + 3, none⟩ = some (.int .i64 (G f 3)) ∧ x.cell? ⟨jE, f * 11 + 4, none⟩ = some (.int .i64 (G f 4)) ∧ x.cell? ⟨jE, f * 11 + 5, none⟩ = some (.int .i64 (G f 5)) ∧ x.cell? ⟨jE, f * 11 + 6, none⟩ = some (.int .i64 (G f 6)) ∧ x.cell? ⟨jE, f * 11 + 7, none⟩ = some (.int .i64 (G f 7)) ∧ x.cell? ⟨jE, f * 11 + 8, none⟩ = some (.int .i64 (G f 8)) ∧ x.cell? ⟨jE, f * 11 + 9, none⟩ = some (.int .i64 (G f 9)) ∧ x.cell? ⟨jE, f * 11 + 10, none⟩ = some (.int .i64 (G f 10))) ∧ (x.cell? ⟨kE, f * 11, none⟩ = some (.int .i64 (F f 0)) ∧ x.cell? ⟨kE, f * 11 + 1, none⟩ = some (.int .i64 (F f 1)) ∧ x.cell? ⟨kE, f * 11 + 2, none⟩ = some (.int .i64 (F f 2)) ∧ x.cell? ⟨kE, f * 11 + 3, none⟩ = some (.int .i64 (F f 3)) ∧ x.cell? ⟨kE, f * 11 + 4, none⟩ = some (.int .i64 (F f 4)) ∧ x.cell? ⟨kE, f * 11 + 5, none⟩ = some (.int .i64 (F f 5)) ∧ x.cell? ⟨kE, f * 11 + 6, none⟩ = some (.int .i64 (F f 6)) ∧ x.cell? ⟨kE, f * 11 + 7, none⟩ = some (.int .i64 (F f 7)) ∧ x.cell? ⟨kE, f * 11 + 8, none⟩ = some (.int .i64 (F f 8)) ∧ x.cell? ⟨kE, f * 11 + 9, none⟩ = some (.int .i64 (F f 9)) ∧ x.cell? ⟨kE, f * 11 + 10, none⟩ = some (.int .i64 (F f 10)))) (go_keep) (fail)
        · go_wp2_with fail
          go_meet
          exact ⟨_, _, rfl, rfl, grown_trans (unhide hgw) (unhide ho1).2.2, (unhide ho1).1, (unhide ho1).2.1⟩
        · go_wp2_with fail
          go_meet
          exact ⟨_, _, rfl, rfl, grown_trans (unhide hgw) (unhide ho2).2.2, (unhide ho2).2.1, (unhide ho2).1⟩
      case rest =>
        clear hS0 hO hW
        obtain ⟨P, Q, rfl, rfl, hgr, hP, hQ⟩ := hcut
        have p3 : wc.cell? ⟨P, 3, none⟩ = some (.int .i64 (E f 3)) := by rw [← (unhide gxy).1]; exact (unhide hP).cell (c := 3) (by omega)
        have p4 : wc.cell? ⟨P, 4, none⟩ = some (.int .i64 (E f 4)) := by rw [← (unhide gxy).2]; exact (unhide hP).cell (c := 4) (by omega)
        have q0 : wc.cell? ⟨Q, 0, none⟩ = some (.int .i64 1) := by rw [← unhide Z0]; exact (unhide hQ).cell (c := 0) (by omega)
        have q3 : wc.cell? ⟨Q, 3, none⟩ = some (.int .i64 (F f 3)) := (unhide hQ).cell (c := 3) (by omega)
        have q4 : wc.cell? ⟨Q, 4, none⟩ = some (.int .i64 (F f 4)) := (unhide hQ).cell (c := 4) (by omega)
        have q10 : wc.cell? ⟨Q, 10, none⟩ = some (.int .i64 (F f 10)) := (unhide hQ).cell (c := 10) (by omega)
        have fP := (unhide hP).free
        have fQ := (unhide hQ).free
        clear hP hQ gxy
        generalize F f 0 = y0 at Z0
        generalize F f 3 = y3 at q3 ZM
        generalize F f 4 = y4 at q4 ZM
        generalize F f 10 = y10 at q10 Z10
        generalize E f 3 = e3 at p3 ZM
        generalize E f 4 = e4 at p4 ZM
        rcases (show st = 0 ∨ st = 1 ∨ st = 2 by have := unhide st0; omega) with rfl | rfl | rfl
        · obtain rfl : y10 = 0 := by have := unhide Z10; omega
          by_cases m2 : a1 = 2
          · subst m2
            go_wp2_with fail; go_ret; exact ⟨rfl, none_below (unhide hgr)⟩
          · have m2' : (a1 == 2) = false := by simp [m2]
            by_cases m1 : a1 = 1
            · subst m1
              by_cases i1 : a2 ≥ 1
              · by_cases i4 : a2 ≤ 4
                · go_wp2_with fail; go_ret; exact ⟨rfl, none_below (unhide hgr)⟩
                · have hxy : y3 = e3 ∧ y4 = e4 := by rcases unhide ZM with h | h; exact absurd h (by omega); exact h
                  obtain ⟨rfl, rfl⟩ := hxy
                  go_wp2_with fail; go_ret; exact ⟨rfl, none_below (unhide hgr)⟩
              · have hxy : y3 = e3 ∧ y4 = e4 := by rcases unhide ZM with h | h; exact absurd h (by omega); exact h
                obtain ⟨rfl, rfl⟩ := hxy
                go_wp2_with fail; go_ret; exact ⟨rfl, none_below (unhide hgr)⟩
            · have m1' : (a1 == 1) = false := by simp [m1]
              have hxy : y3 = e3 ∧ y4 = e4 := by rcases unhide ZM with h | h; exact absurd h (by omega); exact h
              obtain ⟨rfl, rfl⟩ := hxy
              go_wp2_with fail; go_ret; exact ⟨rfl, none_below (unhide hgr)⟩
        · obtain rfl : y10 = 0 := by have := unhide Z10; omega
          have hxy : y3 = e3 ∧ y4 = e4 := by rcases unhide ZM with h | h; exact absurd h (by omega); exact h
          obtain ⟨rfl, rfl⟩ := hxy
          go_wp2_with fail; go_ret; exact ⟨rfl, none_below (unhide hgr)⟩
        · obtain rfl : y10 = 1 := by have := unhide Z10; omega
          have hxy : y3 = e3 ∧ y4 = e4 := by rcases unhide ZM with h | h; exact absurd h (by omega); exact h
          obtain ⟨rfl, rfl⟩ := hxy
          go_wp2_with fail; go_ret; exact ⟨rfl, none_below (unhide hgr)⟩

set_option maxRecDepth 100000 in
theorem lifted (os : Os) (started : os.Started) (H : Type) (enc : TypeId × Value → H) :
    ReturnsInHanded {} Tryz.checked os 8 .any (Rows.crawlSeatsSpec.pre6 enc Tryz.prog Tryz.f8 Rows.crawlSeatsRow.domain false) (Rows.crawlSeatsSpec.post enc Tryz.prog Tryz.f8 false true false false) := by
  refine returnsInHanded_of_change (C := Tryz.checked) own started (by kernel_rfl) Tryz.func8
    (ChangeSpec.witness6 (enc := enc) (C := Tryz.checked) false ⟨#[], #[.int .i64 0, .int .i64 0, .int .i64 0, .int .i64 0], []⟩ 8 (by kernel_rfl) (by kernel_rfl) (by kernel_rfl) (by kernel_rfl)) ?_
  intro W base args ds gs before hval0 hW hcnd _
  have hval : ∀ (j : Nat) t v, Tryz.f8.params[j]? = some t → args[j]? = some v → Value.okWide Tryz.prog W .any base t v := hval0
  have hW' := hW
  obtain ⟨p, q, hA0, hV, rfl, hfz, hnd⟩ := hW
  have hA : DataW.TrodAll enc Tryz.prog W 0 (fun _ => true) true Tryz.f8.params.toList args.toList ds p := hA0
  rw [Tryz.params8] at hA hval
  obtain ⟨v0, vs0, d0, ds0, p0, q0, hargs, rfl, rfl, h0, r0⟩ := trodAll_cons hA
  obtain ⟨v1, vs1, d1, ds1, p1, q1, rfl, rfl, rfl, h1, r1⟩ := trodAll_cons r0
  obtain ⟨v2, vs2, d2, ds2, p2, q2, rfl, rfl, rfl, h2, r2⟩ := trodAll_cons r1
  obtain ⟨v3, vs3, d3, ds3, p3, q3, rfl, rfl, rfl, h3, r3⟩ := trodAll_cons r2
  obtain ⟨rfl, rfl, rfl⟩ := trodAll_nil r3
  obtain rfl : args = #[v0, v1, v2, v3] := by cases args; simp_all
  obtain ⟨rfl, rfl⟩ := trodVars_none hV
  obtain ⟨a0, rfl, rfl, rfl, w0⟩ := open_int Tryz.underlying2 (hval 0 2 v0 rfl rfl) h0
  obtain ⟨a1, rfl, rfl, rfl, w1⟩ := open_int Tryz.underlying3 (hval 1 3 v1 rfl rfl) h1
  obtain ⟨a2, rfl, rfl, rfl, w2⟩ := open_int Tryz.underlying3 (hval 2 3 v2 rfl rfl) h2
  obtain ⟨a3, rfl, rfl, rfl, w3⟩ := open_int Tryz.underlying3 (hval 3 3 v3 rfl rfl) h3
  clear hA0 hval0
  refine (walk a0 a1 a2 a3 w0 w1 w2 w3 W).mono fun e W' ⟨he, hg⟩ => ?_
  subst he
  exact ⟨_, rfl, _, _, _, [], _, [], hW', trodAll_mk1 (shut_bool Tryz.underlying4 _), (trodAll_cons_mk (shut_int Tryz.underlying2 w0) (trodAll_cons_mk (shut_int Tryz.underlying3 w1) (trodAll_cons_mk (shut_int Tryz.underlying3 w2) (trodAll_cons_mk (shut_int Tryz.underlying3 w3) trodAll_mk0)))), rfl, hg.frame _, fun h => by cases h⟩

theorem over : Rows.crawlSeatsRow.holds Tryz.pinned (OpenSpec.ofChange Rows.crawlSeatsSpec) :=
  OpenClaim.holds_of_wide 8 Tryz.f8 rfl rfl rfl rfl rfl rfl rfl ⟨rfl, rfl, rfl, rfl, rfl⟩ rfl rfl rfl rfl rfl (by kernel_rfl) Tryz.func8 (by kernel_rfl)
    (of_decide_eq_true (by kernel_rfl)) (by unfold Func.isWrapper; first | (rw [if_pos (by decide +kernel)]; kernel_rfl) | (rw [if_neg (by decide +kernel)]; exact ⟨rfl, rfl⟩))
    (fun os started H enc _ => lifted os started H enc)

theorem proved : Rows.CrawlSeatsSaid :=
  over
#print axioms proved
end Go.Proofs.YtbanjoflgoiegaaGreat.crawlSeats
