/-
  For any rows, any entity and any numbers the law EntsAsks answers true: of rows (too few of them, too) each call of ents answers as the document says, and the rows stay as they were; no condition.
-/
import Derived.Test.YtbooojkhcnfhbaaRows
import Derived.WalkKit
import Derived.ProofKit
import Derived.OpenShut
import Derived.Test.YtbooojkhcnfhbaaEntBoth
import Derived.ShutString
import Derived.ChangeOld
import Derived.Below
namespace Go.Proofs.Ytbooojkhcnfhbaa.entsAsks
open Go.ChangeShapes Go.WideShapes Go.ChangeAt Go.RowKit
open Go.ChangeMaps (open_string shut_string)
set_option linter.unusedVariables false

theorem own : ownKnob Try.prog.godebug = none := by kernel_rfl
theorem laidOut : laidOutB Try.prog = true := by kernel_rfl

/-- WHAT THE WALK IS TOLD OF A SLICE OF INTEGERS THAT CAME IN: it is nil; or it leads to a row of 'cap' cells, the numbers 'zs' (the first 'len' are its elements, the rest its spare room), each fitting its kind. -/
def IsRow (k : IntKind) (w : World) (a : Option Addr) (len cap : Nat) (zs : List Int) : Prop :=
  (a = none ∧ len = 0 ∧ cap = 0 ∧ zs = []) ∨
  ∃ x, a = some x ∧ len ≤ cap ∧ cap ≤ maxLen ∧ zs.length = cap ∧ (∀ i, i < zs.length → w.cell? (x.add i) = some (.int k (zs.getD i 0))) ∧ ∀ n ∈ zs, (Lit.int k n).wf = true

set_option maxRecDepth 8000 in
set_option maxHeartbeats 8000000 in

theorem walk (a0 : Option Addr) (len0 cap0 : Nat) (z0 : Nat → Nat → Int) (a1 : Nat → Int) (a2 : Int) (a3 : Int) (a4 : Int) (a5 : Int) (a6 : Int) (w : World) (w0 : Arg w a0 len0 cap0 z0) (w2 : (Lit.int .i64 a2).wf = true) (w3 : (Lit.int .i64 a3).wf = true) (w4 : (Lit.int .i64 a4).wf = true) (w5 : (Lit.int .i64 a5).wf = true) (w6 : (Lit.int .i64 a6).wf = true) :
    Calls Try.prog 3 #[.slice a0 len0 cap0, .agg (En.cells a1), .int .i64 a2, .int .i64 a3, .int .i64 a4, .int .i64 a5, .int .i64 a6] w fun e w' => e = .returned (.bool true) ∧ Below w.heap.size w w' := by
  have hA := hide w0.1
  have hnone := hide w0.2
  have hm : len0 ≤ 9223372036854775807 := w0.1.1
  have hbox := hide (Arr.lit (heap_alloc_new w (.cells (En.cells a1) 24)))
  have hgA := hide (World.grownBy_alloc w (.cells (En.cells a1) 24) none)
  clear w0 w2 w3 w4 w5 w6
  unfold En.cells at hbox hgA ⊢
  go_enter Try.func3, Try.ntmps3
  go_wp2_with fail
  refine (known_any _).mono ?_
  rintro e wk ⟨rfl, hgk⟩
  have hgrk := hide (grown_trans (unhide hgA) hgk)
  have hboxk := hide ((unhide hbox).grown hgk (by simp))
  clear hgk hgA hbox
  by_cases hlen : 32 < (len0 : Int)
  · go_wp2
    go_ret
    exact ⟨rfl, grown_below (unhide hgrk)⟩
  · have hn32 : len0 ≤ 32 := by omega
    have hcame := hide (unhide hA)
    go_wp2_with (at_builtin; refine wpList_append_list rfl _ _ rfl wk.heap.size rfl (own_new wk) a0 len0 cap0 z0 rfl (unhide hnone) ((unhide hcame).src (grown_alloc (unhide hgrk) _)) hn32 (by simp) ?_)
    intro g cap w1 hown1 hlo1 hnc1 hgr1
    have hgr1' := hide (show w.grownBy w1 none from grown_own (grown_alloc (unhide hgrk) _) hgr1 (by intro m hm; cases hm; exact (unhide hgrk).size))
    have hbox1 := hide (((unhide hboxk).alloc (.cells #[] 24)).grown hgr1 (by intro e; have h1 := (unhide hboxk).lt; injection e with e; omega))
    have hown1' : Hid (Own w1 g len0 (En.gens 0 z0)) := hown1.congr fun i j _ _ => by unfold En.gens; rw [if_neg (by omega)]
    have hnc1' := hide hnc1
    have hlog : Hid (w.heap.size < g) := by have := (unhide hboxk).lt; exact (show w.heap.size < g by omega)
    clear hown1 hlo1 hnc1 hgr1 hboxk hgrk hcame hA hnone
    obtain ⟨B, hB⟩ : ∃ B, B = w.heap.size := ⟨_, rfl⟩
    have hBe := hide hB
    rw [← hB] at hbox1 hlog
    clear hB
    go_wp2_with fail
    go_loopw [15] (fun vi wr => ∃ k : Nat, k ≤ len0 ∧ vi = .int .i64 (k : Int) ∧ Own wr g len0 (En.gens k z0) ∧ w.grownBy wr none ∧ Arr wr B 24 (En.cells a1).size (fun j => (En.cells a1)[j]?.getD undef)) (fun vi _ => 40 - (intOf vi).toNat)
    case atStart => exact ⟨0, by omega, rfl, unhide hown1', unhide hgr1', unhide hbox1⟩
    case round =>
      clear hown1' hgr1' hbox1
      obtain ⟨k, hk, rfl, hown, hgr, hbx⟩ := hrel
      have hown' := hide hown
      have hgr' := hide hgr
      have hbx' := hide hbx
      clear hown hgr hbx
      by_cases hlt : k < len0
      · have hlt' : (k : Int) < (len0 : Int) := by omega
        obtain ⟨_, u1, _⟩ := (unhide hown').ents.row hlt
        rw [show En.gens k z0 k 1 = z0 k 1 from if_neg (by omega)] at u1
        have f := fun i => (unhide hown').free i
        have hnext : Hid (Own (wr.setCell ⟨g, k * 11 + 1, none⟩ (.int .i64 (z0 k 1 % 256))) g len0 (En.gens (k + 1) z0)) := ((unhide hown').one k 1 (z0 k 1 % 256) (by omega)).congr fun i j _ _ => En.gens_more i j
        have hgn := hide (grown_store (unhide hgr') ⟨g, k * 11 + 1, none⟩ (by have := unhide hlog; have := unhide hBe; exact (show w.heap.size ≤ g by omega)) (.int .i64 (z0 k 1 % 256)))
        have hbn : Hid (Arr (wr.setCell ⟨g, k * 11 + 1, none⟩ (.int .i64 (z0 k 1 % 256))) B 24 (En.cells a1).size (fun j => (En.cells a1)[j]?.getD undef)) := by
          obtain ⟨cur, c1, c2, c3⟩ := unhide hbx'
          exact ⟨cur, (heap_setCell_other wr ⟨g, k * 11 + 1, none⟩ B _ (by have := unhide hlog; exact (show B ≠ g by omega))).trans c1, c2, c3⟩
        have HL := hide hlt
        clear hlt
        go_wp2_with (go_at_call 8; refine (within_any _ _ _ (by omega) (by omega)).mono ?_; rintro e w' ⟨rfl, hw⟩; subst w')
        go_roundw
        case rel => exact ⟨k + 1, by have := unhide HL; omega, by go_num, unhide hnext, unhide hgn, unhide hbn⟩
        case measure => simp [intOf]; omega
      · have hge : ¬ (k : Int) < (len0 : Int) := by omega
        obtain rfl : k = len0 := by omega
        obtain ⟨L, hL⟩ : ∃ L, L = En.gens k z0 := ⟨_, rfl⟩
        have hG : Hid (En.Gens k L) := by rw [hL]; exact En.gens_gens k z0
        rw [← hL] at hown'
        clear hlt hL hk
        go_wp2_with (at_builtin; refine wpList_append_list rfl _ _ rfl wr.heap.size rfl (own_new wr) (some ⟨g, 0, none⟩) k cap L rfl (by intro e; cases e) (by intro p hp; cases hp; exact En.flat_src (unhide hown').ents (World.grownBy_alloc _ _ _)) hn32 (by simp) ?_)
        intro g2 cap2 w2 hown2 hlo2 hnc2 hgr2
        have hgs := grown_own (World.grownBy_alloc wr (.cells #[] 24) none) hgr2 (by intro m hm; cases hm; exact Nat.le_refl _)
        have hl2 := hide ((unhide hown').ents.on hgs)
        have hm2 := hide hown2.ents
        have hgr2' := hide (grown_trans (unhide hgr') hgs)
        have hbx2 := hide ((unhide hbx').grown hgs (by simp))
        have hnc2' := hide hnc2
        clear hown2 hlo2 hnc2 hgr2 hgs hown' hgr' hbx' hge
        obtain ⟨N, r, fe, F, hN, hf0, hf5, csp, cref⟩ := spawn_both k L a1 hn32 (unhide hG)
        obtain ⟨FF, cfr, crf⟩ := free_both k L a2
        have csp' := hide csp
        have cref' := hide cref
        have cfr' := hide cfr
        have crf' := hide crf
        clear csp cref cfr crf
        unfold En.cells at csp' cref'
        have bx : Hid (∀ x, w2.grownBy x none → ∀ j, j < 11 → x.cell? ⟨B, j, none⟩ = some ((En.cells a1)[j]?.getD undef)) := fun x hg j hj => ((unhide hbx2).grown hg (by simp)).cell hj
        have e0 : w2.cell? ⟨B, 0, none⟩ = some (.int .i64 (a1 0)) := unhide bx w2 (World.grownBy.refl _ _) 0 (by omega)
        have e1 : w2.cell? ⟨B, 1, none⟩ = some (.int .i64 (a1 1)) := unhide bx w2 (World.grownBy.refl _ _) 1 (by omega)
        have e2 : w2.cell? ⟨B, 2, none⟩ = some (.int .i64 (a1 2)) := unhide bx w2 (World.grownBy.refl _ _) 2 (by omega)
        have e3 : w2.cell? ⟨B, 3, none⟩ = some (.int .i64 (a1 3)) := unhide bx w2 (World.grownBy.refl _ _) 3 (by omega)
        have e4 : w2.cell? ⟨B, 4, none⟩ = some (.int .i64 (a1 4)) := unhide bx w2 (World.grownBy.refl _ _) 4 (by omega)
        have e5 : w2.cell? ⟨B, 5, none⟩ = some (.int .i64 (a1 5)) := unhide bx w2 (World.grownBy.refl _ _) 5 (by omega)
        have e6 : w2.cell? ⟨B, 6, none⟩ = some (.int .i64 (a1 6)) := unhide bx w2 (World.grownBy.refl _ _) 6 (by omega)
        have e7 : w2.cell? ⟨B, 7, none⟩ = some (.int .i64 (a1 7)) := unhide bx w2 (World.grownBy.refl _ _) 7 (by omega)
        have e8 : w2.cell? ⟨B, 8, none⟩ = some (.int .i64 (a1 8)) := unhide bx w2 (World.grownBy.refl _ _) 8 (by omega)
        have e9 : w2.cell? ⟨B, 9, none⟩ = some (.int .i64 (a1 9)) := unhide bx w2 (World.grownBy.refl _ _) 9 (by omega)
        have e10 : w2.cell? ⟨B, 10, none⟩ = some (.int .i64 (a1 10)) := unhide bx w2 (World.grownBy.refl _ _) 10 (by omega)
        rw [← unhide hBe]
        go_wp2_with fail
        refine (unhide csp' w2 g2 cap2 (unhide hm2) (unhide hnc2')).mono ?_
        rintro _ w3 ⟨a3', c3', rfl, hl3, hg3⟩
        have hl3' := hide hl3
        have hg3' := hide hg3
        clear e0 e1 e2 e3 e4 e5 e6 e7 e8 e9 e10 hl3 hg3 csp'
        have e0 : w3.cell? ⟨B, 0, none⟩ = some (.int .i64 (a1 0)) := unhide bx w3 (unhide hg3') 0 (by omega)
        have e1 : w3.cell? ⟨B, 1, none⟩ = some (.int .i64 (a1 1)) := unhide bx w3 (unhide hg3') 1 (by omega)
        have e2 : w3.cell? ⟨B, 2, none⟩ = some (.int .i64 (a1 2)) := unhide bx w3 (unhide hg3') 2 (by omega)
        have e3 : w3.cell? ⟨B, 3, none⟩ = some (.int .i64 (a1 3)) := unhide bx w3 (unhide hg3') 3 (by omega)
        have e4 : w3.cell? ⟨B, 4, none⟩ = some (.int .i64 (a1 4)) := unhide bx w3 (unhide hg3') 4 (by omega)
        have e5 : w3.cell? ⟨B, 5, none⟩ = some (.int .i64 (a1 5)) := unhide bx w3 (unhide hg3') 5 (by omega)
        have e6 : w3.cell? ⟨B, 6, none⟩ = some (.int .i64 (a1 6)) := unhide bx w3 (unhide hg3') 6 (by omega)
        have e7 : w3.cell? ⟨B, 7, none⟩ = some (.int .i64 (a1 7)) := unhide bx w3 (unhide hg3') 7 (by omega)
        have e8 : w3.cell? ⟨B, 8, none⟩ = some (.int .i64 (a1 8)) := unhide bx w3 (unhide hg3') 8 (by omega)
        have e9 : w3.cell? ⟨B, 9, none⟩ = some (.int .i64 (a1 9)) := unhide bx w3 (unhide hg3') 9 (by omega)
        have e10 : w3.cell? ⟨B, 10, none⟩ = some (.int .i64 (a1 10)) := unhide bx w3 (unhide hg3') 10 (by omega)
        go_wp2_with fail
        refine (unhide cref' w3 g cap ((unhide hl2).on (unhide hg3'))).mono ?_
        rintro _ w4 ⟨a4', c4', rfl, hl4, hg4⟩
        have hg4' := hide (grown_trans (unhide hg3') hg4)
        have hsame : Hid (N = 0 ∨ ∃ b1 b2, a3' = some ⟨b1, 0, none⟩ ∧ a4' = some ⟨b2, 0, none⟩ ∧ Ents w4 b1 N F ∧ Ents w4 b2 N F) := by
          rcases unhide hl3' with h0 | ⟨b1, h1, hE1⟩
          · exact .inl h0
          · rcases hl4 with h0 | ⟨b2, h2, hE2⟩
            · exact .inl h0
            · exact .inr ⟨b1, b2, h1, h2, hE1.on hg4, hE2⟩
        clear e0 e1 e2 e3 e4 e5 e6 e7 e8 e9 e10 hl3' hl4 hg3' hg4 cref'
        go_wp2_with fail
        refine (same_any N c3' c4' a3' a4' F w4 hN (unhide hsame)).mono ?_
        rintro _ w5 ⟨rfl, hg5⟩
        have hg5' := hide (grown_trans (unhide hg4') hg5)
        clear hg5 hg4' hsame
        go_wp2_with fail
        refine (unhide cfr' w5 g2 cap2 ((unhide hm2).on (unhide hg5')) (unhide hnc2')).mono ?_
        rintro _ w6 ⟨g6, cap6, rfl, _, _, _, hown6, hg6⟩
        have hE6 := hide hown6.ents
        have hg6' := hide (grown_trans (unhide hg5') hg6)
        clear hown6 hg6 hg5' cfr'
        go_wp2_with fail
        refine (unhide crf' w6 g cap ((unhide hl2).on (unhide hg6'))).mono ?_
        rintro _ w7 ⟨g7, cap7, rfl, _, _, _, hown7, hg7⟩
        have hE7 := hide hown7.ents
        have hE67 := hide ((unhide hE6).on hg7)
        have hg7' := hide (grown_trans (unhide hg6') hg7)
        clear hown7 hg7 hg6' crf' hE6
        go_wp2_with fail
        refine (same_any k cap6 cap7 _ _ FF w7 hn32 (.inr ⟨g6, g7, rfl, rfl, unhide hE67, unhide hE7⟩)).mono ?_
        rintro _ w8 ⟨rfl, hg8⟩
        have hg8' := hide (grown_trans (unhide hg7') hg8)
        clear hg8 hg7' hE67 hE7
        go_wp2_with fail
        refine (same_any k cap2 cap _ _ L w8 hn32 (.inr ⟨g2, g, rfl, rfl, (unhide hm2).on (unhide hg8'), (unhide hl2).on (unhide hg8')⟩)).mono ?_
        rintro _ w9 ⟨rfl, hg9⟩
        have hg9' := hide (grown_trans (unhide hg8') hg9)
        clear hg9 hg8'
        go_wp2_with fail
        have hgf := hide (grown_trans (unhide hgr2') (unhide hg9'))
        obtain ⟨s, hs⟩ : ∃ s, s = En.stats (a1 0) := ⟨_, rfl⟩
        obtain ⟨AT, hAT⟩ : ∃ x, x = En.first (En.atQ L a3 a4) k := ⟨_, rfl⟩
        obtain ⟨HE, hHE⟩ : ∃ x, x = En.first (En.heroQ L a5) k := ⟨_, rfl⟩
        obtain ⟨ID, hID⟩ : ∃ x, x = En.id k L a2 := ⟨_, rfl⟩
        obtain ⟨OF, hOF⟩ : ∃ x, x = En.first (En.ofQ L a6) k := ⟨_, rfl⟩
        have hs' := hide hs
        have hAT' := hide hAT
        have hHE' := hide hHE
        have hID' := hide hID
        have hOF' := hide hOF
        clear hs hAT hHE hID hOF
        refine wp_region_grown (by kernel_rfl) (by kernel_rfl) ?_
        intro St hN2 W hI hx
        have q0 : ∀ σ, (W σ).cell? ⟨B, 0, none⟩ = some (.int .i64 (a1 0)) := fun σ => unhide bx (W σ) (grown_trans (unhide hg9') (hI σ)) 0 (by omega)
        have hl : ∀ σ, Ents (W σ) g k L := fun σ => (unhide hl2).on (grown_trans (unhide hg9') (hI σ))
        have c1 : ∀ σ, Calls Try.prog 14 #[.int .i64 (a1 0)] (W σ) fun e w'' => e = .returned (.agg #[.int .i64 (s 0), .int .i64 (s 1), .int .i64 (s 2), .int .i64 (s 3), .int .i64 (s 4), .int .i64 (s 5), .int .i64 (s 6), .int .i64 (s 7), .int .i64 (s 8), .int .i64 (s 9), .int .i64 (s 10)]) ∧ ∃ σ', w'' = W σ' := fun σ => by
          rw [unhide hs']
          exact calls_class hI hx (stats_any (a1 0) (W σ))
        have c2 : ∀ σ, Calls Try.prog 15 #[.int .i64 (a1 0)] (W σ) fun e w'' => e = .returned (.agg #[.int .i64 (s 0), .int .i64 (s 1), .int .i64 (s 2), .int .i64 (s 3), .int .i64 (s 4), .int .i64 (s 5), .int .i64 (s 6), .int .i64 (s 7), .int .i64 (s 8), .int .i64 (s 9), .int .i64 (s 10)]) ∧ ∃ σ', w'' = W σ' := fun σ => by
          rw [unhide hs']
          exact calls_class hI hx (refStats_any (a1 0) (W σ))
        have c3 : ∀ σ, Calls Try.prog 16 #[.slice (some ⟨g, 0, none⟩) k cap, .int .i64 a3, .int .i64 a4] (W σ) fun e w'' => e = .returned (.int .i64 AT) ∧ ∃ σ', w'' = W σ' := fun σ => by
          rw [unhide hAT']
          exact calls_class hI hx (at_any g k cap L a3 a4 (W σ) (hl σ) (unhide hnc1'))
        have c4 : ∀ σ, Calls Try.prog 17 #[.slice (some ⟨g, 0, none⟩) k cap, .int .i64 a3, .int .i64 a4] (W σ) fun e w'' => e = .returned (.int .i64 AT) ∧ ∃ σ', w'' = W σ' := fun σ => by
          rw [unhide hAT']
          exact calls_class hI hx (refAt_any g k cap L a3 a4 (W σ) (hl σ))
        have c5 : ∀ σ, Calls Try.prog 18 #[.slice (some ⟨g, 0, none⟩) k cap, .int .i64 a5] (W σ) fun e w'' => e = .returned (.int .i64 HE) ∧ ∃ σ', w'' = W σ' := fun σ => by
          rw [unhide hHE']
          exact calls_class hI hx (hero_any g k cap L a5 (W σ) (hl σ) (unhide hnc1'))
        have c6 : ∀ σ, Calls Try.prog 19 #[.slice (some ⟨g, 0, none⟩) k cap, .int .i64 a5] (W σ) fun e w'' => e = .returned (.int .i64 HE) ∧ ∃ σ', w'' = W σ' := fun σ => by
          rw [unhide hHE']
          exact calls_class hI hx (refHero_any g k cap L a5 (W σ) (hl σ))
        have c7 : ∀ σ, Calls Try.prog 20 #[.slice (some ⟨g, 0, none⟩) k cap, .int .i64 a2] (W σ) fun e w'' => e = .returned (.int .i64 ID) ∧ ∃ σ', w'' = W σ' := fun σ => by
          rw [unhide hID']
          exact calls_class hI hx (id_any g k cap L a2 (W σ) (hl σ) (unhide hnc1') (unhide hG))
        have c8 : ∀ σ, Calls Try.prog 21 #[.slice (some ⟨g, 0, none⟩) k cap, .int .i64 a2] (W σ) fun e w'' => e = .returned (.int .i64 ID) ∧ ∃ σ', w'' = W σ' := fun σ => by
          rw [unhide hID']
          exact calls_class hI hx (refId_any g k cap L a2 (W σ) (hl σ) (unhide hG))
        have c9 : ∀ σ, Calls Try.prog 22 #[.slice (some ⟨g, 0, none⟩) k cap, .int .i64 a6] (W σ) fun e w'' => e = .returned (.int .i64 OF) ∧ ∃ σ', w'' = W σ' := fun σ => by
          rw [unhide hOF']
          exact calls_class hI hx (of_any g k cap L a6 (W σ) (hl σ) (unhide hnc1') (unhide hG))
        have c10 : ∀ σ, Calls Try.prog 23 #[.slice (some ⟨g, 0, none⟩) k cap, .int .i64 a6] (W σ) fun e w'' => e = .returned (.int .i64 OF) ∧ ∃ σ', w'' = W σ' := fun σ => by
          rw [unhide hOF']
          exact calls_class hI hx (refOf_any g k cap L a6 (W σ) (hl σ) (unhide hG))
        have hI' := hide hI
        clear hI hx hl
        repeat (go_big_quiet_step ((first | (go_at_call 14; exact c1 _) | (go_at_call 15; exact c2 _) | (go_at_call 16; exact c3 _) | (go_at_call 17; exact c4 _) | (go_at_call 18; exact c5 _) | (go_at_call 19; exact c6 _) | (go_at_call 20; exact c7 _) | (go_at_call 21; exact c8 _) | (go_at_call 22; exact c9 _) | (go_at_call 23; exact c10 _))))
        refine wpQuiet_nil ?_
        rintro _ ⟨σ, rfl⟩
        have hfin := hide (grown_trans (unhide hgf) (unhide hI' σ))
        clear c1 c2 c3 c4 c5 c6 c7 c8 c9 c10 q0
        go_wp2
        go_ret
        exact ⟨rfl, grown_below (unhide hfin)⟩

set_option maxRecDepth 100000 in
theorem lifted (os : Os) (started : os.Started) (H : Type) (enc : TypeId × Value → H) :
    ReturnsInHanded {} Try.checked os 3 .any (Rows.entsAsksSpec.pre6 enc Try.prog Try.f3 Rows.entsAsksRow.domain false) (Rows.entsAsksSpec.post enc Try.prog Try.f3 false true false false) := by
  refine returnsInHanded_of_change (C := Try.checked) own started (by kernel_rfl) Try.func3
    (ChangeSpec.witness6 (enc := enc) (C := Try.checked) false ⟨#[], #[.slice none 0 0, .agg #[.int .i64 0, .int .i64 0, .int .i64 0, .int .i64 0, .int .i64 0, .int .i64 0, .int .i64 0, .int .i64 0, .int .i64 0, .int .i64 0, .int .i64 0], .int .i64 0, .int .i64 0, .int .i64 0, .int .i64 0, .int .i64 0], []⟩ 8 (by kernel_rfl) (by kernel_rfl) (by kernel_rfl) (by kernel_rfl)) ?_
  intro W base args ds gs before hval0 hW hcnd _
  have hval : ∀ (j : Nat) t v, Try.f3.params[j]? = some t → args[j]? = some v → Value.okWide Try.prog W .any base t v := hval0
  have hW' := hW
  obtain ⟨p, q, hA0, hV, rfl, hfz, hnd⟩ := hW
  have hA : DataW.TrodAll enc Try.prog W 0 (fun _ => true) true Try.f3.params.toList args.toList ds p := hA0
  rw [Try.params3] at hA hval
  obtain ⟨v0, vs0, d0, ds0, p0, q0, hargs, rfl, rfl, h0, r0⟩ := trodAll_cons hA
  obtain ⟨v1, vs1, d1, ds1, p1, q1, rfl, rfl, rfl, h1, r1⟩ := trodAll_cons r0
  obtain ⟨v2, vs2, d2, ds2, p2, q2, rfl, rfl, rfl, h2, r2⟩ := trodAll_cons r1
  obtain ⟨v3, vs3, d3, ds3, p3, q3, rfl, rfl, rfl, h3, r3⟩ := trodAll_cons r2
  obtain ⟨v4, vs4, d4, ds4, p4, q4, rfl, rfl, rfl, h4, r4⟩ := trodAll_cons r3
  obtain ⟨v5, vs5, d5, ds5, p5, q5, rfl, rfl, rfl, h5, r5⟩ := trodAll_cons r4
  obtain ⟨v6, vs6, d6, ds6, p6, q6, rfl, rfl, rfl, h6, r6⟩ := trodAll_cons r5
  obtain ⟨rfl, rfl, rfl⟩ := trodAll_nil r6
  obtain rfl : args = #[v0, v1, v2, v3, v4, v5, v6] := by cases args; simp_all
  obtain ⟨rfl, rfl⟩ := trodVars_none hV
  obtain ⟨a0, len0, cap0, rfl⟩ := okWide_slice Try.underlying22 (hval 0 22 v0 rfl rfl)
  have k0 := h0
  have lt0 : ∀ x ∈ p0, x.block < W.heap.size := by obtain ⟨m, hm⟩ := k0; exact DataW.trod_lt m _ _ _ hm
  obtain ⟨z0, w0⟩ : ∃ E, Arg W a0 len0 cap0 E := by
    obtain ⟨fuel, hf⟩ := h0
    exact open_ents (by simpa [Value.cells] using hf)
  have k1 := h1
  have lt1 : ∀ x ∈ p1, x.block < W.heap.size := by obtain ⟨m, hm⟩ := k1; exact DataW.trod_lt m _ _ _ hm
  obtain ⟨a1, rfl⟩ := open_ent (hval 1 24 v1 rfl rfl) h1
  obtain ⟨a2, rfl, rfl, rfl, w2⟩ := open_int Try.underlying3 (hval 2 3 v2 rfl rfl) h2
  obtain ⟨a3, rfl, rfl, rfl, w3⟩ := open_int Try.underlying3 (hval 3 3 v3 rfl rfl) h3
  obtain ⟨a4, rfl, rfl, rfl, w4⟩ := open_int Try.underlying3 (hval 4 3 v4 rfl rfl) h4
  obtain ⟨a5, rfl, rfl, rfl, w5⟩ := open_int Try.underlying3 (hval 5 3 v5 rfl rfl) h5
  obtain ⟨a6, rfl, rfl, rfl, w6⟩ := open_int Try.underlying3 (hval 6 3 v6 rfl rfl) h6
  clear hA0 hval0
  refine (walk a0 len0 cap0 z0 a1 a2 a3 a4 a5 a6 W w0 w2 w3 w4 w5 w6).mono fun e W' ⟨he, bel⟩ => ?_
  subst he
  exact ⟨_, rfl, _, _, _, [], _, [], hW', trodAll_mk1 (shut_bool Try.underlying4 _), (trodAll_cons_mk (Below.trod laidOut (by kernel_rfl) (of_decide_eq_true (by kernel_rfl)) k0 bel lt0) (trodAll_cons_mk (Below.trod laidOut (by kernel_rfl) (of_decide_eq_true (by kernel_rfl)) k1 bel lt1) (trodAll_cons_mk (shut_int Try.underlying3 w2) (trodAll_cons_mk (shut_int Try.underlying3 w3) (trodAll_cons_mk (shut_int Try.underlying3 w4) (trodAll_cons_mk (shut_int Try.underlying3 w5) (trodAll_cons_mk (shut_int Try.underlying3 w6) trodAll_mk0))))))), rfl, bel.frame _, fun h => by cases h⟩

theorem over : Rows.entsAsksRow.holds Try.pinned (OpenSpec.ofChange Rows.entsAsksSpec) :=
  OpenClaim.holds_of_wide 3 Try.f3 rfl rfl rfl rfl rfl rfl rfl ⟨rfl, rfl, rfl, rfl, rfl⟩ rfl rfl rfl rfl rfl (by kernel_rfl) Try.func3 (by kernel_rfl)
    (of_decide_eq_true (by kernel_rfl)) (by unfold Func.isWrapper; first | (rw [if_pos (by decide +kernel)]; kernel_rfl) | (rw [if_neg (by decide +kernel)]; exact ⟨rfl, rfl⟩))
    (fun os started H enc _ => lifted os started H enc)

theorem proved : Rows.EntsAsksSaid := over
#print axioms proved
end Go.Proofs.Ytbooojkhcnfhbaa.entsAsks
