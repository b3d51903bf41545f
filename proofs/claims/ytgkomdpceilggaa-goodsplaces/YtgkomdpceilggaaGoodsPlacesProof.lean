/-
  Whatever a hero does each item is in one place, none comes out of nothing, and gold stays within its bounds: for every seed, floor, seat, place, list of items, gold and row of inputs, at this commit; no condition.
-/
import Derived.Test.YtgkomdpceilggaaRows
import Derived.WalkKit
import Derived.ProofKit
import Derived.OpenShut
import Derived.Test.YtgkomdpceilggaaPart24
import Derived.BigQuiet
import Derived.Deep.Cut
import Derived.Deep.CutRange
import Derived.Deep.CutBlock
import Derived.Deep.RegionHeld3
import Derived.ShutString
import Derived.ChangeOld
import Derived.Below
namespace Go.Proofs.Ytgkomdpceilggaa.goodsPlaces
open Go.ChangeShapes Go.WideShapes Go.ChangeAt Go.RowKit
open Go.ChangeMaps (open_string shut_string)
set_option linter.unusedVariables false

theorem own : ownKnob Try.prog.godebug = none := by kernel_rfl
theorem laidOut : laidOutB Try.prog = true := by kernel_rfl

/-- WHAT THE WALK IS TOLD OF A SLICE OF INTEGERS THAT CAME IN: it is nil; or it leads to a row of 'cap' cells, the numbers 'zs' (the first 'len' are its elements, the rest its spare room), each fitting its kind. -/
def IsRow (k : IntKind) (w : World) (a : Option Addr) (len cap : Nat) (zs : List Int) : Prop :=
  (a = none ∧ len = 0 ∧ cap = 0 ∧ zs = []) ∨
  ∃ x, a = some x ∧ len ≤ cap ∧ cap ≤ maxLen ∧ zs.length = cap ∧ (∀ i, i < zs.length → w.cell? (x.add i) = some (.int k (zs.getD i 0))) ∧ ∀ n ∈ zs, (Lit.int k n).wf = true

theorem IsRow.num {w : World} {a : Option Addr} {len cap : Nat} {zs : List Int} (h : IsRow .i64 w a len cap zs) : NumArg w a len (fun i => zs.getD i 0) := by
  rcases h with ⟨rfl, rfl, rfl, rfl⟩ | ⟨x, rfl, hl, hm, hz, hcell, _⟩
  · exact ⟨Nat.zero_le _, .inl rfl⟩
  · refine ⟨Nat.le_trans hl hm, ?_⟩
    by_cases h0 : len = 0
    · exact .inl h0
    · right
      obtain ⟨b, off, spot⟩ := x
      have hspot : spot = none := by simpa [Addr.add] using World.cell?_spot (hcell 0 (by omega))
      subst hspot
      have hlt := Go.block_lt_of_cell (hcell 0 (by omega))
      refine ⟨b, off, rfl, by simpa [Addr.add] using hlt, fun i hi => ?_⟩
      have h := hcell i (by omega)
      by_cases hi0 : i = 0
      · subst hi0
        simpa [Addr.add] using h
      · simpa [Addr.add, hi0] using h

set_option maxRecDepth 8000 in
set_option maxHeartbeats 12800000 in

theorem walk (a0 : Int) (a1 : Int) (a2 : Int) (a3 : Int) (a4 : Option Addr) (len4 cap4 : Nat) (z4 : Nat → Nat → Int) (a5 : Int) (a6 : Option Addr) (len6 cap6 : Nat) (z6 : List Int) (w : World) (w0 : (Lit.int .i64 a0).wf = true) (w1 : (Lit.int .i64 a1).wf = true) (w2 : (Lit.int .i64 a2).wf = true) (w3 : (Lit.int .i64 a3).wf = true) (w4 : ItArg w a4 len4 cap4 z4) (w5 : (Lit.int .i64 a5).wf = true) (w6 : IsRow .i64 w a6 len6 cap6 z6) :
    Calls Try.prog 4 #[.int .i64 a0, .int .i64 a1, .int .i64 a2, .int .i64 a3, .slice a4 len4 cap4, .int .i64 a5, .slice a6 len6 cap6] w fun e w' => e = .returned (.bool true) ∧ Below w.heap.size w w' := by
  have hN := hide (IsRow.num w6)
  have hIt := hide w4
  have hm6 := (unhide hN).most
  unfold maxLen at hm6
  clear w0 w1 w2 w3 w4 w5 w6
  obtain ⟨f, hf⟩ : ∃ f : Nat → Int, f = fun i => z6.getD i 0 := ⟨_, rfl⟩
  rw [← hf] at hN
  clear hf
  obtain ⟨t, ht⟩ : ∃ n : Nat, a2 % 4 = (n : Int) := ⟨(a2 % 4).toNat, by omega⟩
  have t4 : (t : Int) < 4 := by omega
  have cM : Hid (∀ wq, Calls Try.prog 11 #[.int .i64 a2, .int .i64 4] wq fun e w' => e = .returned (.int .i64 (t : Int)) ∧ w' = wq) := fun wq => by
    have h := within7_any a2 4 wq (by omega) (by omega)
    rw [ht] at h
    exact h
  clear ht
  go_enter Try.func4, Try.ntmps4
  go_wp2_with fail
  refine (known7_any _).mono ?_
  rintro e wk ⟨rfl, hgk⟩
  have hIk := hide ((unhide hIt).on hgk)
  have hgk' := hide hgk
  clear hgk hIt
  go_wp2_with fail
  refine (world_live a0 a1 a2 a3 a5 a4 len4 cap4 z4 wk (unhide hIk)).mono ?_
  rintro e wa ⟨c, s, g, E, I, hV, gC, gE, gI, cC, cE, cI, rfl, hcap, l1, l2, l3, n1, n2, n3, hL, hg⟩
  have hLive := hide hV
  have hW := hide (Gd.law_new (s := s) (g := g) (cC := cC) (cI := cI) (unhide hgk') hcap l1 l2 l3 n1 n2 n3 hL hg)
  have hcc : Hid (∀ i, 0 ≤ c i ∧ c i ≤ 255) := hV.fine.cells
  have cck : Hid (∀ (g : Nat → Int) (E I : Nat → Nat → Int) (gC gE gI cC cE cI : Nat) (x : World), Gd.Live c g E I → Gd.Lists x gC gE gI c E I → Calls Try.prog 16 #[.agg (Gd.world s gC gE gI cC cE cI g)] x (Says x (.bool true))) := fun g E I gC gE gI cC cE cI x hl hx => by
    refine (check_any s g c E I gC gE gI cC cE cI x hx (unhide hcc)).mono ?_
    rintro e w' ⟨r, rfl, hr, hg⟩
    obtain rfl : r = true := hr.2 hl.fine.ok
    exact ⟨rfl, hg⟩
  clear hcap l1 l2 l3 n1 n2 n3 hL hg hgk' hV hIk
  unfold Gd.world at hW ⊢
  go_upto_region 4 with fail
  obtain ⟨T, hT⟩ : ∃ T, wa.heap.size = T := ⟨_, rfl⟩
  rw [hT] at hW ⊢
  generalize wa.alloc (.cells #[.int .i64 (s 0), .int .i64 (s 1), .int .i64 (s 2), .int .i64 (s 3), .slice (some ⟨gC, 0, none⟩) 384 cC, .slice (some ⟨gE, 0, none⟩) 32 cE, .slice (some ⟨gI, 0, none⟩) 40 cI, .int .i64 (g 0), .int .i64 (g 1), .int .i64 (g 2), .int .i64 (g 3)] 29) = wb at hW ⊢
  clear hT
  obtain ⟨b0, b1, b2, b3, b4, b5, b6, b7, b8, b9, b10⟩ := (unhide hW).eleven
  have ck := hide (unhide cck g E I gC gE gI cC cE cI wb (unhide hLive) (unhide hW).hold.lists)
  unfold Gd.world at ck
  go_wp2_with fail
  refine (unhide ck).mono ?_
  rintro e wc ⟨rfl, hg⟩
  have hW1 := hide ((unhide hW).on hg)
  clear hg hW ck b0 b1 b2 b3 b4 b5 b6 b7 b8 b9 b10
  go_wp2_with fail
  refine (unhide cM _).mono ?_
  rintro e wy ⟨rfl, hy⟩
  subst wy
  clear cM
  go_upto_block 0 with fail
  go_cut [] from 16 (fun wx => ∃ (g : Nat → Int) (E I : Nat → Nat → Int) (gC gE gI cC cE cI : Nat), Hid (Gd.Live c g E I) ∧ Hid (Gd.Law w wx T gC gE gI cC cE cI s g c E I))
  case first =>
    go_wp2_with fail
    go_loopw [16] (fun vi wr => ∃ (i : Nat) (g : Nat → Int) (E I : Nat → Nat → Int) (gC gE gI cC cE cI : Nat), i ≤ len6 ∧ i ≤ 20 ∧ vi = .int .i64 (i : Int) ∧ Hid (Gd.Live c g E I) ∧ Hid (Gd.Law w wr T gC gE gI cC cE cI s g c E I)) (fun vi _ => 30 - (intOf vi).toNat)
    case atStart => exact ⟨0, g, E, I, gC, gE, gI, cC, cE, cI, by omega, by omega, rfl, hLive, hW1⟩
    case round =>
      clear hLive hW1
      obtain ⟨i, g, E, I, gC, gE, gI, cC, cE, cI, hi, hi20, rfl, hLive, hW⟩ := hrel
      by_cases hlt : i < len6 ∧ i < 20
      · have hlt' : (i : Int) < (len6 : Int) := by omega
        have hlt2 : (i : Int) < 20 := by omega
        have HL := hide hlt
        obtain ⟨b, o, rfl, hbl, hcell⟩ := ((unhide hN).on (unhide hW).grown).at hlt.1
        obtain ⟨b0, b1, b2, b3, b4, b5, b6, b7, b8, b9, b10⟩ := (unhide hW).eleven
        have hfew := hide (Gd.next_few c g E I (t : Int) (f i))
        have hnext := hide ((unhide hLive).next (t : Int) (f i))
        have cd := hide (fun x hx => do_any s g c E I gC gE gI cC cE cI (t : Int) (f i) x hx (unhide hLive).fine)
        obtain ⟨G, hG⟩ : ∃ G, Gd.nextG c g E I (t : Int) (f i) = G := ⟨_, rfl⟩
        obtain ⟨E2, hE2⟩ : ∃ G, Gd.nextE E I (t : Int) (f i) = G := ⟨_, rfl⟩
        obtain ⟨I2, hI2⟩ : ∃ G, Gd.nextI c g E I (t : Int) (f i) = G := ⟨_, rfl⟩
        rw [hG, hE2, hI2] at hnext cd
        rw [hI2] at hfew
        obtain ⟨v, hv⟩ : ∃ v, f i = v := ⟨_, rfl⟩
        rw [hv] at cd hcell
        clear hG hE2 hI2 hv hlt hi hi20
        unfold Gd.world at cd
        go_upto_region 10 with fail
        go_cut [17] from 45 to 51 (fun v17 wx => ∃ T2 jC jE jI dC dE dI, v17 = .pointer (some ⟨T2, 0, none⟩) ∧ Hid (Gd.Law w wx T gC gE gI cC cE cI s g c E I) ∧ Hid (Gd.Law w wx T2 jC jE jI dC dE dI s G c E2 I2))
        case first =>
          have hdr := hide (grown_drew1 (World.grownBy.refl wr none))
          have hLx : Hid (∀ y, wr.grownBy y none → Gd.Lists y gC gE gI c E I) := fun y hy => (unhide hW).hold.lists.on hy
          have hkeep : Hid (∀ x, wr.grownBy x none → (x.cell? ⟨T, 0, none⟩ = some (.int .i64 (s 0)) ∧ x.cell? ⟨T, 1, none⟩ = some (.int .i64 (s 1)) ∧ x.cell? ⟨T, 2, none⟩ = some (.int .i64 (s 2)) ∧ x.cell? ⟨T, 3, none⟩ = some (.int .i64 (s 3)) ∧ x.cell? ⟨T, 4, none⟩ = some (.slice (some ⟨gC, 0, none⟩) 384 cC) ∧ x.cell? ⟨T, 5, none⟩ = some (.slice (some ⟨gE, 0, none⟩) 32 cE) ∧ x.cell? ⟨T, 6, none⟩ = some (.slice (some ⟨gI, 0, none⟩) 40 cI) ∧ x.cell? ⟨T, 7, none⟩ = some (.int .i64 (g 0)) ∧ x.cell? ⟨T, 8, none⟩ = some (.int .i64 (g 1)) ∧ x.cell? ⟨T, 9, none⟩ = some (.int .i64 (g 2)) ∧ x.cell? ⟨T, 10, none⟩ = some (.int .i64 (g 3)) ∧ x.cell? ⟨b, o + i, none⟩ = some (.int .i64 v))) := fun x hx => by
            obtain ⟨k0, k1, k2, k3, k4, k5, k6, k7, k8, k9, k10⟩ := ((unhide hW).on hx).eleven
            exact ⟨k0, k1, k2, k3, k4, k5, k6, k7, k8, k9, k10, (grown_cell hx b _ hbl (by simp)).trans hcell⟩
          have hgw := hide (grown_trans (unhide hW).grown (unhide hdr))
          have hne : Hid (w.heap.size ≤ wr.heap.size ∧ wr.heap.size ≠ T ∧ wr.heap.size ≠ gC ∧ wr.heap.size ≠ gE ∧ wr.heap.size ≠ gI ∧ wr.heap.size ≠ b) := by
            have h1 := (unhide hW).grown.size
            have h2 := (unhide hW).hold.box.lt
            have h3 := (unhide hW).hold.lists.cells.lt
            have h4 := (unhide hW).hold.lists.ents.lt
            have h5 := (unhide hW).hold.lists.items.lt
            exact ⟨h1, by omega, by omega, by omega, by omega, by omega⟩
          have q1 : wr.heap.size ≠ T := (unhide hne).2.1
          have q2 : T ≠ wr.heap.size := q1.symm
          have q3 : wr.heap.size ≠ b := (unhide hne).2.2.2.2.2
          have q4 : b ≠ wr.heap.size := q3.symm
          go_region_held3 (fun x => x.cell? ⟨T, 0, none⟩ = some (.int .i64 (s 0)) ∧ x.cell? ⟨T, 1, none⟩ = some (.int .i64 (s 1)) ∧ x.cell? ⟨T, 2, none⟩ = some (.int .i64 (s 2)) ∧ x.cell? ⟨T, 3, none⟩ = some (.int .i64 (s 3)) ∧ x.cell? ⟨T, 4, none⟩ = some (.slice (some ⟨gC, 0, none⟩) 384 cC) ∧ x.cell? ⟨T, 5, none⟩ = some (.slice (some ⟨gE, 0, none⟩) 32 cE) ∧ x.cell? ⟨T, 6, none⟩ = some (.slice (some ⟨gI, 0, none⟩) 40 cI) ∧ x.cell? ⟨T, 7, none⟩ = some (.int .i64 (g 0)) ∧ x.cell? ⟨T, 8, none⟩ = some (.int .i64 (g 1)) ∧ x.cell? ⟨T, 9, none⟩ = some (.int .i64 (g 2)) ∧ x.cell? ⟨T, 10, none⟩ = some (.int .i64 (g 3)) ∧ x.cell? ⟨b, o + i, none⟩ = some (.int .i64 v)) (go_keep) (first
            | (go_at_call 13; refine (unhide cd _ (unhide hLx _ (unhide hdr))).mono ?_; rintro e wv ⟨jC, jE, jI, dC, dE, dI, rfl, hcap, l1, l2, l3, n1, n2, n3, hL, hg⟩; have hS := unhide hkeep _ (grown_trans (unhide hdr) hg); have hV := hide (Gd.law_new (s := s) (g := G) (cC := dC) (cI := dI) (unhide hgw) hcap l1 l2 l3 n1 n2 n3 hL hg); have hWv := hide (((unhide hW).on (unhide hdr)).on hg); have q5 : wv.heap.size ≠ T := (by have := (unhide hWv).hold.box.lt; omega); have q6 : T ≠ wv.heap.size := q5.symm; clear hcap l1 l2 l3 n1 n2 n3 hL hg; unfold Gd.world at hV ⊢)
            | (go_at_call 13; refine (unhide cd _ (unhide hLx _ (grown_alloc (unhide hdr) _))).mono ?_; rintro e wv ⟨jC, jE, jI, dC, dE, dI, rfl, hcap, l1, l2, l3, n1, n2, n3, hL, hg⟩; have hS := unhide hkeep _ (grown_trans (grown_alloc (unhide hdr) _) hg); obtain ⟨⟨z0, z1, z2, z3, z4, z5, z6, z7, z8, z9, z10⟩, fz, ⟨hz1, hz2, hz3⟩, hbx⟩ := box_facts (B := wr.heap.size) hg (heap_alloc_new wr.drew _); have hV := hide (Gd.law_laid (s := s) (g := G) (cC := dC) (cI := dI) (grown_alloc (unhide hgw) _) (unhide hne).1 (Arr.lit (heap_alloc_new _ _)).lie hcap l1 l2 l3 n1 n2 n3 hL hg); have hWv := hide (((unhide hW).on (grown_alloc (unhide hdr) _)).on hg); clear hcap l1 l2 l3 n1 n2 n3 hL hg hbx hz1 hz2 hz3; unfold Gd.world at hV ⊢))
          · go_wp2_with fail
            go_meet
            exact ⟨_, jC, jE, jI, dC, dE, dI, rfl, (unhide hWv).on (World.grownBy_alloc _ _ _), hV⟩
          · go_wp2_with fail
            go_meet
            exact ⟨_, jC, jE, jI, dC, dE, dI, rfl, (unhide hWv).aside (unhide hne).1 (unhide hne).2.1 (unhide hne).2.2.1 (unhide hne).2.2.2.1 (unhide hne).2.2.2.2.1 [_, _, _, _, _, _, _, _, _, _, _], hV⟩
        case rest =>
          obtain ⟨T2, jC, jE, jI, dC, dE, dI, rfl, hW2, hV⟩ := hcut
          clear hW b0 b1 b2 b3 b4 b5 b6 b7 b8 b9 b10 hcell cd hbl hLive
          obtain ⟨d0, d1, d2, d3, d4, d5, d6, d7, d8, d9, d10⟩ := (unhide hV).eleven
          have ck := hide (unhide cck G E2 I2 jC jE jI dC dE dI _ (unhide hnext) (unhide hV).hold.lists)
          unfold Gd.world at ck
          go_wp2_with fail
          refine (unhide ck).mono ?_
          rintro e wd ⟨rfl, hg⟩
          have hW3 := hide ((unhide hW2).on hg)
          have hV3 := hide ((unhide hV).on hg)
          clear hg ck hW2 hV d0 d1 d2 d3 d4 d5 d6 d7 d8 d9 d10
          have gp := (unhide hV3).purse (t := t) (by omega)
          have g0 := ((unhide hnext).fine.gold t (by omega)).1
          have g9 := ((unhide hnext).fine.gold t (by omega)).2
          have g9' : ¬ 999 < G t := by omega
          have g0' : ¬ G t < 0 := by omega
          have k6 := (unhide hV3).eleven.2.2.2.2.2.2.1
          have m6 := (unhide hW3).eleven.2.2.2.2.2.2.1
          go_upto_block 2 with fail
          go_cut [18] from 78 to 119 (fun v18 wx => v18 = .int .i64 ((Gd.turned I I2 40 : Nat) : Int) ∧ Hid (Gd.Law w wx T gC gE gI cC cE cI s g c E I) ∧ Hid (Gd.Law w wx T2 jC jE jI dC dE dI s G c E2 I2))
          case first =>
            clear gp g0 g9 g9' g0' k6 m6
            go_wp2_with fail
            go_loopw [18, 19] (fun vn vk wr => ∃ k : Nat, k ≤ 40 ∧ vk = .int .i64 (k : Int) ∧ vn = .int .i64 ((Gd.turned I I2 k : Nat) : Int) ∧ Hid (Gd.Law w wr T gC gE gI cC cE cI s g c E I) ∧ Hid (Gd.Law w wr T2 jC jE jI dC dE dI s G c E2 I2)) (fun _ vk _ => 50 - (intOf vk).toNat)
            case atStart => exact ⟨0, by omega, rfl, rfl, hW3, hV3⟩
            case round =>
              clear hW3 hV3
              obtain ⟨k, hk, rfl, rfl, hW3, hV3⟩ := hrel
              have k6 := (unhide hV3).eleven.2.2.2.2.2.2.1
              have m6 := (unhide hW3).eleven.2.2.2.2.2.2.1
              by_cases hlt : k < 40
              · have hlt' : (k : Int) < 40 := by omega
                have HK := hide hlt
                obtain ⟨x0, x1, x2, x3⟩ := (unhide hV3).hold.lists.its.row hlt
                obtain ⟨y0, y1, y2, y3⟩ := (unhide hW3).hold.lists.its.row hlt
                have hdW : Hid (∀ n, Gd.Law w (wr.drewN n) T gC gE gI cC cE cI s g c E I) := fun n => (unhide hW3).on (grown_drew (World.grownBy.refl _ _) n)
                have hdV : Hid (∀ n, Gd.Law w (wr.drewN n) T2 jC jE jI dC dE dI s G c E2 I2) := fun n => (unhide hV3).on (grown_drew (World.grownBy.refl _ _) n)
                by_cases hsame : I2 k 0 = I k 0 ∧ I2 k 1 = I k 1 ∧ I2 k 2 = I k 2 ∧ I2 k 3 = I k 3
                · have hq := fun wx => run_ne_item (I2 k 0) (I2 k 1) (I2 k 2) (I2 k 3) (I k 0) (I k 1) (I k 2) (I k 3) wx
                  rw [show (!(decide (I2 k 0 = I k 0) && (decide (I2 k 1 = I k 1) && (decide (I2 k 2 = I k 2) && decide (I2 k 3 = I k 3))))) = false by simp [hsame.1, hsame.2.1, hsame.2.2.1, hsame.2.2.2]] at hq
                  have ht1 : Hid (Gd.turned I I2 (k + 1) = Gd.turned I I2 k) := by
                    show Gd.turned I I2 k + _ = _
                    rw [if_pos hsame]
                    rfl
                  clear hsame hlt hk
                  go_wp2_with fail
                  go_quiet (fail)
                  clear x0 x1 x2 x3 y0 y1 y2 y3 hq k6 m6
                  go_wp2
                  go_roundw
                  case rel => exact ⟨k + 1, by have := unhide HK; omega, by go_num, by rw [unhide ht1], unhide hdW _, unhide hdV _⟩
                  case measure => simp [intOf]; have := unhide HK; omega
                · have hb := (unhide hfew).two k
                  have hkind : I2 k 0 = I k 0 ∨ Gd.Zero (I2 k) := (unhide hfew).kept k
                  have hq := fun wx => run_ne_item (I2 k 0) (I2 k 1) (I2 k 2) (I2 k 3) (I k 0) (I k 1) (I k 2) (I k 3) wx
                  rw [show (!(decide (I2 k 0 = I k 0) && (decide (I2 k 1 = I k 1) && (decide (I2 k 2 = I k 2) && decide (I2 k 3 = I k 3))))) = true by simp; omega] at hq
                  have ht1 : Hid (Gd.turned I I2 (k + 1) = Gd.turned I I2 k + 1) := by
                    show Gd.turned I I2 k + _ = _
                    rw [if_neg hsame]
                  obtain ⟨n, hn⟩ : ∃ n, Gd.turned I I2 k = n := ⟨_, rfl⟩
                  rw [hn] at hb ht1 ⊢
                  have hb' : (n : Int) ≤ 2 := by omega
                  by_cases hk0 : I2 k 0 = I k 0
                  · rw [hk0] at x0 hq
                    have hq2 : (I k 0 == I k 0) = true := by simp
                    clear hsame hlt hk hb hn hkind hk0
                    go_wp2_with fail
                    go_quiet (fail)
                    go_wp2_with fail
                    go_quiet (fail)
                    clear x0 x1 x2 x3 y0 y1 y2 y3 hq k6 m6
                    go_wp2
                    go_roundw
                    case rel => exact ⟨k + 1, by have := unhide HK; omega, by go_num, by rw [unhide ht1]; go_num, unhide hdW _, unhide hdV _⟩
                    case measure => simp [intOf]; have := unhide HK; omega
                  · obtain ⟨z0, z1, z2, z3⟩ := hkind.resolve_left hk0
                    rw [z0] at x0 hq hk0
                    rw [z1] at x1 hq
                    rw [z2] at x2 hq
                    rw [z3] at x3 hq
                    have hq2 : ((0 : Int) == I k 0) = false := by simpa using hk0
                    have hq3 : ¬ (0 : Int) = I k 0 := hk0
                    have hz := fun wx => run_ne_item 0 0 0 0 0 0 0 0 wx
                    simp only [decide_true, Bool.and_self, Bool.not_true] at hz
                    clear hsame hlt hk hb hn hkind hk0 z0 z1 z2 z3
                    go_wp2_with fail
                    go_quiet (fail)
                    go_wp2_with fail
                    go_quiet (fail)
                    clear x0 x1 x2 x3 y0 y1 y2 y3 hq k6 m6
                    go_wp2
                    go_roundw
                    case rel => exact ⟨k + 1, by have := unhide HK; omega, by go_num, by rw [unhide ht1]; go_num, unhide hdW _, unhide hdV _⟩
                    case measure => simp [intOf]; have := unhide HK; omega
              · obtain rfl : k = 40 := by omega
                have hge : ¬ ((40 : Nat) : Int) < 40 := by omega
                clear hlt hk
                go_wp2_with fail
                go_meet
                exact ⟨rfl, hW3, hV3⟩
          case rest =>
            clear gp g0 g9 g9' g0' k6 m6 hW3 hV3
            obtain ⟨rfl, hW3, hV3⟩ := hcut
            have h2 := (unhide hfew).two 40
            obtain ⟨n, hn⟩ : ∃ n, Gd.turned I I2 40 = n := ⟨_, rfl⟩
            rw [hn] at h2 ⊢
            have h2' : ¬ 2 < (n : Int) := by omega
            obtain ⟨b0, b1, b2, b3, b4, b5, b6, b7, b8, b9, b10⟩ := (unhide hW3).eleven
            obtain ⟨d0, d1, d2, d3, d4, d5, d6, d7, d8, d9, d10⟩ := (unhide hV3).eleven
            have fT := (unhide hW3).hold.box.free
            have hfin : Hid (Gd.Law w _ T jC jE jI dC dE dI s G c E2 I2) := (unhide hW3).take (unhide hV3)
            clear hn h2 hW3 hV3
            go_wp2
            go_roundw
            case rel => exact ⟨i + 1, G, E2, I2, jC, jE, jI, dC, dE, dI, by have := unhide HL; omega, by have := unhide HL; omega, by go_num, hnext, hfin⟩
            case measure => simp [intOf]; have := unhide HL; omega
      · by_cases hl : i < len6
        · have hl' : (i : Int) < (len6 : Int) := by omega
          have h20 : ¬ (i : Int) < 20 := by omega
          clear hlt hi hi20
          go_wp2_with fail
          go_meet
          exact ⟨g, E, I, gC, gE, gI, cC, cE, cI, hLive, hW⟩
        · have hl' : ¬ (i : Int) < (len6 : Int) := by omega
          clear hlt hi hi20
          go_wp2_with fail
          go_meet
          exact ⟨g, E, I, gC, gE, gI, cC, cE, cI, hLive, hW⟩
  case rest =>
    clear hLive hW1
    obtain ⟨g, E, I, gC, gE, gI, cC, cE, cI, hLive, hW⟩ := hcut
    obtain ⟨b0, b1, b2, b3, b4, b5, b6, b7, b8, b9, b10⟩ := (unhide hW).eleven
    have cs := hide (sweep_any s g c E I gC gE gI cC cE cI (t : Int) _ (unhide hW).hold.lists)
    have hno := hide (Gd.sweep_clean I (t : Int))
    have hL2 : Hid (Gd.Live c g E (Gd.sweep I (t : Int))) := { unhide hLive with fine := { (unhide hLive).fine with ok := (unhide hLive).fine.ok.sweep (t : Int) } }
    obtain ⟨S, hS⟩ : ∃ S, Gd.sweep I (t : Int) = S := ⟨_, rfl⟩
    rw [hS] at cs hno hL2
    clear hS hLive
    unfold Gd.world at cs
    go_wp2_with fail
    refine (unhide cs).mono ?_
    rintro e wv ⟨jC, jE, jI, dC, dE, dI, rfl, hcap, l1, l2, l3, n1, n2, n3, hL, hg⟩
    have hV : Hid (Gd.Law w (((((((((((wv.setCell ⟨T, 0, none⟩ (.int .i64 (s 0))).setCell ⟨T, 1, none⟩ (.int .i64 (s 1))).setCell ⟨T, 2, none⟩ (.int .i64 (s 2))).setCell ⟨T, 3, none⟩ (.int .i64 (s 3))).setCell ⟨T, 4, none⟩ (.slice (some ⟨jC, 0, none⟩) 384 dC)).setCell ⟨T, 5, none⟩ (.slice (some ⟨jE, 0, none⟩) 32 dE)).setCell ⟨T, 6, none⟩ (.slice (some ⟨jI, 0, none⟩) 40 dI)).setCell ⟨T, 7, none⟩ (.int .i64 (g 0))).setCell ⟨T, 8, none⟩ (.int .i64 (g 1))).setCell ⟨T, 9, none⟩ (.int .i64 (g 2))).setCell ⟨T, 10, none⟩ (.int .i64 (g 3))) T jC jE jI dC dE dI s g c E S) := (unhide hW).over (s' := s) (g' := g) (dC := dC) (dI := dI) hcap l1 l2 l3 n1 n2 n3 hL hg
    obtain ⟨y0, y1, y2, y3, y4, y5, y6, y7, y8, y9, y10⟩ := ((unhide hW).on hg).eleven
    have fT := ((unhide hW).on hg).hold.box.free
    clear hcap l1 l2 l3 n1 n2 n3 hL hg cs hW b0 b1 b2 b3 b4 b5 b6 b7 b8 b9 b10
    unfold Gd.world
    go_wp2_with fail
    generalize (((((((((((wv.setCell ⟨T, 0, none⟩ (.int .i64 (s 0))).setCell ⟨T, 1, none⟩ (.int .i64 (s 1))).setCell ⟨T, 2, none⟩ (.int .i64 (s 2))).setCell ⟨T, 3, none⟩ (.int .i64 (s 3))).setCell ⟨T, 4, none⟩ (.slice (some ⟨jC, 0, none⟩) 384 dC)).setCell ⟨T, 5, none⟩ (.slice (some ⟨jE, 0, none⟩) 32 dE)).setCell ⟨T, 6, none⟩ (.slice (some ⟨jI, 0, none⟩) 40 dI)).setCell ⟨T, 7, none⟩ (.int .i64 (g 0))).setCell ⟨T, 8, none⟩ (.int .i64 (g 1))).setCell ⟨T, 9, none⟩ (.int .i64 (g 2))).setCell ⟨T, 10, none⟩ (.int .i64 (g 3))) = wz at hV ⊢
    clear y0 y1 y2 y3 y4 y5 y6 y7 y8 y9 y10 fT
    go_loop [20] (fun vk => ∃ k : Nat, k ≤ 40 ∧ vk = .int .i64 (k : Int)) (fun vk => 50 - (intOf vk).toNat)
    case atStart => exact ⟨0, by omega, rfl⟩
    case round =>
      obtain ⟨k, hk, rfl⟩ := hrel
      by_cases hlt : k < 40
      · have hlt' : (k : Int) < 40 := by omega
        have HK := hide hlt
        have q6 := (unhide hV).eleven.2.2.2.2.2.2.1
        obtain ⟨x0, x1, x2, x3⟩ := (unhide hV).hold.lists.its.row hlt
        have hc := unhide hno k
        clear hlt hk
        by_cases h2 : S k 1 = 2
        · have h3 : (S k 2 == (t : Int)) = false := by
            have : ¬ S k 2 = (t : Int) := fun e => hc ⟨.inl h2, e⟩
            simpa using this
          rw [h2] at x1
          clear hc h2
          go_wp2
          go_round
          case rel => exact ⟨k + 1, by have := unhide HK; omega, by go_num⟩
          case measure => simp [intOf]; have := unhide HK; omega
        · have h2' : (S k 1 == 2) = false := by simpa using h2
          by_cases h3 : S k 1 = 3
          · have h4 : (S k 2 == (t : Int)) = false := by
              have : ¬ S k 2 = (t : Int) := fun e => hc ⟨.inr h3, e⟩
              simpa using this
            rw [h3] at x1
            clear hc h2 h2' h3
            go_wp2
            go_round
            case rel => exact ⟨k + 1, by have := unhide HK; omega, by go_num⟩
            case measure => simp [intOf]; have := unhide HK; omega
          · have h3' : (S k 1 == 3) = false := by simpa using h3
            clear hc h2 h3
            go_wp2
            go_round
            case rel => exact ⟨k + 1, by have := unhide HK; omega, by go_num⟩
            case measure => simp [intOf]; have := unhide HK; omega
      · have hge : ¬ (k : Int) < 40 := by omega
        have q6 := (unhide hV).eleven.2.2.2.2.2.2.1
        obtain ⟨b0, b1, b2, b3, b4, b5, b6, b7, b8, b9, b10⟩ := (unhide hV).eleven
        have ck := hide (unhide cck g E S jC jE jI dC dE dI wz (unhide hL2) (unhide hV).hold.lists)
        unfold Gd.world at ck
        clear hlt hk
        go_wp2_with fail
        refine (unhide ck).mono ?_
        rintro e wh ⟨rfl, hg⟩
        have hfin := hide (grown_trans (unhide hV).grown hg)
        clear hg ck
        go_wp2
        go_ret
        exact ⟨rfl, none_below (unhide hfin)⟩

set_option maxRecDepth 100000 in
theorem lifted (os : Os) (started : os.Started) (H : Type) (enc : TypeId × Value → H) :
    ReturnsInHanded {} Try.checked os 4 .any (Rows.goodsPlacesSpec.pre6 enc Try.prog Try.f4 Rows.goodsPlacesRow.domain false) (Rows.goodsPlacesSpec.post enc Try.prog Try.f4 false true false false) := by
  refine returnsInHanded_of_change (C := Try.checked) own started (by kernel_rfl) Try.func4
    (ChangeSpec.witness6 (enc := enc) (C := Try.checked) false ⟨#[], #[.int .i64 0, .int .i64 0, .int .i64 0, .int .i64 0, .slice none 0 0, .int .i64 0, .slice none 0 0], []⟩ 8 (by kernel_rfl) (by kernel_rfl) (by kernel_rfl) (by kernel_rfl)) ?_
  intro W base args ds gs before hval0 hW hcnd _
  have hval : ∀ (j : Nat) t v, Try.f4.params[j]? = some t → args[j]? = some v → Value.okWide Try.prog W .any base t v := hval0
  have hW' := hW
  obtain ⟨p, q, hA0, hV, rfl, hfz, hnd⟩ := hW
  have hA : DataW.TrodAll enc Try.prog W 0 (fun _ => true) true Try.f4.params.toList args.toList ds p := hA0
  rw [Try.params4] at hA hval
  obtain ⟨v0, vs0, d0, ds0, p0, q0, hargs, rfl, rfl, h0, r0⟩ := trodAll_cons hA
  obtain ⟨v1, vs1, d1, ds1, p1, q1, rfl, rfl, rfl, h1, r1⟩ := trodAll_cons r0
  obtain ⟨v2, vs2, d2, ds2, p2, q2, rfl, rfl, rfl, h2, r2⟩ := trodAll_cons r1
  obtain ⟨v3, vs3, d3, ds3, p3, q3, rfl, rfl, rfl, h3, r3⟩ := trodAll_cons r2
  obtain ⟨v4, vs4, d4, ds4, p4, q4, rfl, rfl, rfl, h4, r4⟩ := trodAll_cons r3
  obtain ⟨v5, vs5, d5, ds5, p5, q5, rfl, rfl, rfl, h5, r5⟩ := trodAll_cons r4
  obtain ⟨v6, vs6, d6, ds6, p6, q6, rfl, rfl, rfl, h6, r6⟩ := trodAll_cons r5
  obtain ⟨rfl, rfl, rfl⟩ := trodAll_nil r6
  obtain rfl : args = #[v0, v1, v2, v3, v4, v5, v6] := by cases args; simp_all
  obtain ⟨rfl, rfl⟩ := trodVars_none hV
  obtain ⟨a0, rfl, rfl, rfl, w0⟩ := open_int Try.underlying2 (hval 0 2 v0 rfl rfl) h0
  obtain ⟨a1, rfl, rfl, rfl, w1⟩ := open_int Try.underlying3 (hval 1 3 v1 rfl rfl) h1
  obtain ⟨a2, rfl, rfl, rfl, w2⟩ := open_int Try.underlying3 (hval 2 3 v2 rfl rfl) h2
  obtain ⟨a3, rfl, rfl, rfl, w3⟩ := open_int Try.underlying3 (hval 3 3 v3 rfl rfl) h3
  obtain ⟨a4, len4, cap4, rfl⟩ := okWide_slice Try.underlying22 (hval 4 22 v4 rfl rfl)
  have k4 := h4
  have lt4 : ∀ x ∈ p4, x.block < W.heap.size := by obtain ⟨m, hm⟩ := k4; exact DataW.trod_lt m _ _ _ hm
  obtain ⟨z4, w4⟩ : ∃ M, ItArg W a4 len4 cap4 M := by
    obtain ⟨fuel, hf⟩ := h4
    exact open_items (by simpa [Value.cells] using hf)
  obtain ⟨a5, rfl, rfl, rfl, w5⟩ := open_int Try.underlying3 (hval 5 3 v5 rfl rfl) h5
  obtain ⟨a6, len6, cap6, rfl⟩ := okWide_slice Try.underlying23 (hval 6 23 v6 rfl rfl)
  have k6 := h6
  have lt6 : ∀ x ∈ p6, x.block < W.heap.size := by obtain ⟨m, hm⟩ := k6; exact DataW.trod_lt m _ _ _ hm
  obtain ⟨z6, w6⟩ : ∃ zs, IsRow .i64 W a6 len6 cap6 zs := by
    obtain ⟨fuel, hf⟩ := h6
    rcases open_ints Try.underlying23 Try.underlying3 (by kernel_rfl) hf with ⟨hcs, _⟩ | ⟨x, l, c, zs, hcs, _, hl, hm, hz, _, hcell, hwz⟩
    · simp [Value.cells] at hcs
      obtain ⟨rfl, rfl, rfl⟩ := hcs
      exact ⟨[], .inl ⟨rfl, rfl, rfl, rfl⟩⟩
    · simp [Value.cells] at hcs
      obtain ⟨rfl, rfl, rfl⟩ := hcs
      exact ⟨zs, .inr ⟨_, rfl, hl, hm, by simpa using hz, hcell, hwz⟩⟩
  clear hA0 hval0
  refine (walk a0 a1 a2 a3 a4 len4 cap4 z4 a5 a6 len6 cap6 z6 W w0 w1 w2 w3 w4 w5 w6).mono fun e W' ⟨he, bel⟩ => ?_
  subst he
  exact ⟨_, rfl, _, _, _, [], _, [], hW', trodAll_mk1 (shut_bool Try.underlying4 _), (trodAll_cons_mk (shut_int Try.underlying2 w0) (trodAll_cons_mk (shut_int Try.underlying3 w1) (trodAll_cons_mk (shut_int Try.underlying3 w2) (trodAll_cons_mk (shut_int Try.underlying3 w3) (trodAll_cons_mk (Below.trod laidOut (by kernel_rfl) (of_decide_eq_true (by kernel_rfl)) k4 bel lt4) (trodAll_cons_mk (shut_int Try.underlying3 w5) (trodAll_cons_mk (Below.trod laidOut (by kernel_rfl) (of_decide_eq_true (by kernel_rfl)) k6 bel lt6) trodAll_mk0))))))), rfl, bel.frame _, fun h => by cases h⟩

theorem over : Rows.goodsPlacesRow.holds Try.pinned (OpenSpec.ofChange Rows.goodsPlacesSpec) :=
  OpenClaim.holds_of_wide 4 Try.f4 rfl rfl rfl rfl rfl rfl rfl ⟨rfl, rfl, rfl, rfl, rfl⟩ rfl rfl rfl rfl rfl (by kernel_rfl) Try.func4 (by kernel_rfl)
    (of_decide_eq_true (by kernel_rfl)) (by unfold Func.isWrapper; first | (rw [if_pos (by decide +kernel)]; kernel_rfl) | (rw [if_neg (by decide +kernel)]; exact ⟨rfl, rfl⟩))
    (fun os started H enc _ => lifted os started H enc)

theorem proved : Rows.GoodsPlacesSaid := over
#print axioms proved
end Go.Proofs.Ytgkomdpceilggaa.goodsPlaces
