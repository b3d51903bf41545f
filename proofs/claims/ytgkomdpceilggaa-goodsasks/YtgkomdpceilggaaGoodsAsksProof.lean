/-
  Of any items, such as may not be, too, it is told whether they may, what is worn, what is swept, what is laid, as the document says: for every seed, list of items, seat and list of items to be laid, at this commit; no condition.
-/
import Derived.Test.YtgkomdpceilggaaRows
import Derived.WalkKit
import Derived.ProofKit
import Derived.OpenShut
import Derived.Test.YtgkomdpceilggaaPart24
import Derived.Test.YtgkomdpceilggaaPart20
import Derived.Test.YtgkomdpceilggaaPart19
import Derived.BigQuiet
import Derived.Deep.Cut
import Derived.Deep.CutRange
import Derived.Deep.CutBlock
import Derived.Deep.RegionWith
import Derived.Deep.RegionHeld3
import Derived.ShutString
import Derived.ChangeOld
import Derived.Below
namespace Go.Proofs.Ytgkomdpceilggaa.goodsAsks
open Go.ChangeShapes Go.WideShapes Go.ChangeAt Go.RowKit
open Go.ChangeMaps (open_string shut_string)
set_option linter.unusedVariables false

theorem own : ownKnob Try.prog.godebug = none := by kernel_rfl
theorem laidOut : laidOutB Try.prog = true := by kernel_rfl

/-- WHAT THE WALK IS TOLD OF A SLICE OF INTEGERS THAT CAME IN: it is nil; or it leads to a row of 'cap' cells, the numbers 'zs' (the first 'len' are its elements, the rest its spare room), each fitting its kind. -/
def IsRow (k : IntKind) (w : World) (a : Option Addr) (len cap : Nat) (zs : List Int) : Prop :=
  (a = none ∧ len = 0 ∧ cap = 0 ∧ zs = []) ∨
  ∃ x, a = some x ∧ len ≤ cap ∧ cap ≤ maxLen ∧ zs.length = cap ∧ (∀ i, i < zs.length → w.cell? (x.add i) = some (.int k (zs.getD i 0))) ∧ ∀ n ∈ zs, (Lit.int k n).wf = true

theorem snug_cap {s g : Nat → Int} {gC gE gI cC cE cI : Nat} (h : Gd.Snug (.returned (.agg (Gd.world s gC gE gI cC cE cI g)))) : cI = 40 := by
  obtain ⟨s', gC', gE', gI', g', h⟩ := h
  simp only [Gd.world, Ending.returned.injEq, Value.agg.injEq] at h
  have h6 := congrArg (fun a : Array Value => a[6]?) h
  simp at h6
  exact h6.2

set_option maxRecDepth 8000 in
set_option maxHeartbeats 12800000 in

theorem walk (a0 : Int) (a1 : Option Addr) (len1 cap1 : Nat) (z1 : Nat → Nat → Int) (a2 : Int) (a3 : Option Addr) (len3 cap3 : Nat) (z3 : Nat → Nat → Int) (w : World) (w0 : (Lit.int .i64 a0).wf = true) (w1 : ItArg w a1 len1 cap1 z1) (w2 : (Lit.int .i64 a2).wf = true) (w3 : ItArg w a3 len3 cap3 z3) :
    Calls Try.prog 5 #[.int .i64 a0, .slice a1 len1 cap1, .int .i64 a2, .slice a3 len3 cap3] w fun e w' => e = .returned (.bool true) ∧ Below w.heap.size w w' := by
  have hIt := hide w1
  have hMo := hide w3
  clear w0 w1 w2 w3
  go_enter Try.func5, Try.ntmps5
  go_wp2_with fail
  refine (known7_any _).mono ?_
  rintro e wk ⟨rfl, hgk⟩
  have hgk' := hide hgk
  clear hgk
  by_cases h60 : len1 ≤ 60
  · by_cases k60 : len3 ≤ 60
    · have h60' : ¬ 60 < (len1 : Int) := by omega
      have k60' : ¬ 60 < (len3 : Int) := by omega
      go_wp2_with fail
      refine (world_any a0 0 0 1 0 none 0 0 (fun _ _ => 0) _ ⟨by omega, .inl rfl⟩).mono ?_
      rintro e wa ⟨c, kc, hF, hkc, hkw, -, I, ⟨gC, gE, gI, cC, cE, cI, rfl, hcap, l1, l2, l3, n1, n2, n3, hL, hg⟩, hOk, hKn, hSn⟩
      obtain rfl := snug_cap hSn
      have hI := hKn.1 rfl
      subst hI
      have hlv : Hid (∀ J, Gd.Ok c 40 J → Gd.Live c (Gd.give (fun _ => 0) ((0 : Int) % 4).toNat ((0 : Int) % 1000)) (En.put (fun _ _ => 0) ((1 : Int) % 32).toNat (Gd.folk ((0 : Int) % 4) kc ((1 : Int) % 20))) J) := fun J hJ => Gd.told_live hF hJ hkc hkw (by decide) (by decide) (by decide) (by decide)
      have hcc : Hid (∀ i, 0 ≤ c i ∧ c i ≤ 255) := (unhide hlv _ hOk).fine.cells
      obtain ⟨g, hge⟩ : ∃ g, Gd.give (fun _ => 0) ((0 : Int) % 4).toNat ((0 : Int) % 1000) = g := ⟨_, rfl⟩
      obtain ⟨E, hE⟩ : ∃ E, En.put (fun _ _ => 0) ((1 : Int) % 32).toNat (Gd.folk ((0 : Int) % 4) kc ((1 : Int) % 20)) = E := ⟨_, rfl⟩
      obtain ⟨s, hs⟩ : ∃ s, Gd.head a0 (1 + 0 % 3) = s := ⟨_, rfl⟩
      rw [hge, hE] at hlv
      rw [hE] at hL
      rw [hge, hs]
      have hW := hide (Gd.law_new (s := s) (g := g) (cC := cC) (cI := 40) (unhide hgk') hcap l1 l2 l3 n1 n2 n3 hL hg)
      clear hcap l1 l2 l3 n1 n2 n3 hL hg hF hkc hkw hOk hKn hSn hge hE hs hgk'
      unfold Gd.world at hW ⊢
      go_upto_region 6 with fail
      obtain ⟨T, hT⟩ : ∃ T, wa.heap.size = T := ⟨_, rfl⟩
      rw [hT] at hW ⊢
      generalize wa.alloc (.cells #[.int .i64 (s 0), .int .i64 (s 1), .int .i64 (s 2), .int .i64 (s 3), .slice (some ⟨gC, 0, none⟩) 384 cC, .slice (some ⟨gE, 0, none⟩) 32 cE, .slice (some ⟨gI, 0, none⟩) 40 40, .int .i64 (g 0), .int .i64 (g 1), .int .i64 (g 2), .int .i64 (g 3)] 29) = wb at hW ⊢
      clear hT
      go_upto_block 0 with fail
      go_cut [] from 10 (fun wx => Hid (Gd.Law w wx T gC gE gI cC cE 40 s g c E (Gd.over z1 (min len1 40))))
      case first =>
        clear h60' k60'
        go_wp2_with fail
        go_loopw [10] (fun vi wr => ∃ k : Nat, k ≤ len1 ∧ k ≤ 40 ∧ vi = .int .i64 (k : Int) ∧ Hid (Gd.Law w wr T gC gE gI cC cE 40 s g c E (Gd.over z1 k))) (fun vi _ => 50 - (intOf vi).toNat)
        case atStart => exact ⟨0, by omega, by omega, rfl, (unhide hW).same (Gd.over_none z1)⟩
        case round =>
          clear hW
          obtain ⟨k, hk, hk40, rfl, hW⟩ := hrel
          by_cases hlt : k < len1 ∧ k < 40
          · have hlt' : (k : Int) < (len1 : Int) := by omega
            have hlt2 : (k : Int) < 40 := by omega
            have HL := hide hlt
            obtain ⟨b, o, rfl, hbl, hc⟩ := ((unhide hIt).on (unhide hW).grown).rows.resolve_left (by omega)
            have x0 : wr.cell? ⟨b, o + k * 4, none⟩ = some (.int .i64 (z1 k 0)) := hc k 0 hlt.1 (by omega)
            have x1 := hc k 1 hlt.1 (by omega)
            have x2 := hc k 2 hlt.1 (by omega)
            have x3 := hc k 3 hlt.1 (by omega)
            have q6 := (unhide hW).eleven.2.2.2.2.2.2.1
            have fI := (unhide hW).hold.lists.items.free
            obtain ⟨u0, u1, u2, u3⟩ := (unhide hW).hold.lists.its.row (k := k) hlt.2
            have hTI : T ≠ gI := (unhide hW).hold.bI
            have hIT : gI ≠ T := hTI.symm
            have hbI : b ≠ gI := by
              obtain ⟨b', o', e', hb', _⟩ := (unhide hIt).rows.resolve_left (by omega)
              have := (unhide hW).lI
              cases e'
              omega
            have hIb : gI ≠ b := hbI.symm
            have hst : Hid (Gd.Law w _ T gC gE gI cC cE 40 s g c E (Gd.over z1 (k + 1))) := ((unhide hW).put k (z1 k 0) (z1 k 1) (z1 k 2) (z1 k 3)).same (Gd.over_more z1 k)
            clear hlt hk hk40 hc hW
            go_wp2_with fail
            go_region_held3 (fun x => x.cell? ⟨T, 6, none⟩ = some (.slice (some ⟨gI, 0, none⟩) 40 40) ∧ x.cell? ⟨b, o + k * 4, none⟩ = some (.int .i64 (z1 k 0)) ∧ x.cell? ⟨b, o + k * 4 + 1, none⟩ = some (.int .i64 (z1 k 1)) ∧ x.cell? ⟨b, o + k * 4 + 2, none⟩ = some (.int .i64 (z1 k 2)) ∧ x.cell? ⟨b, o + k * 4 + 3, none⟩ = some (.int .i64 (z1 k 3))) (go_keep) (fail)
            go_wp2
            go_roundw
            case rel => exact ⟨k + 1, by have := unhide HL; omega, by have := unhide HL; omega, by go_num, (unhide hst).on (grown_drew1 (World.grownBy.refl _ _))⟩
            case measure => simp [intOf]; have := unhide HL; omega
          · by_cases hl : k < len1
            · have hl' : (k : Int) < (len1 : Int) := by omega
              have h20 : ¬ (k : Int) < 40 := by omega
              have hkk : Hid (min len1 40 = k) := (show min len1 40 = k by omega)
              clear hlt hk hk40
              go_wp2_with fail
              go_meet
              rw [unhide hkk]
              exact hW
            · have hl' : ¬ (k : Int) < (len1 : Int) := by omega
              have hkk : Hid (min len1 40 = k) := (show min len1 40 = k by omega)
              clear hlt hk hk40
              go_wp2_with fail
              go_meet
              rw [unhide hkk]
              exact hW
      case rest =>
        have hW1 := hide (unhide hcut)
        clear hcut hW
        go_upto_if 52 with fail
        go_cut [] from 52 to 58 (fun wx => ∃ v6 r, Hid (Gd.Ask w wx T gC gE cC cE s g c E v6 r))
        case first =>
          by_cases h40 : 40 < len1
          · have h40' : 40 < (len1 : Int) := by omega
            rw [show min len1 40 = 40 by omega] at hW1
            obtain ⟨b, o, rfl, hbl, hc⟩ := ((unhide hIt).on (unhide hW1).grown).rows.resolve_left (by omega)
            have hsl := fun wx => slice_past b o len1 cap1 wx h40 (unhide hIt).cap
            have hdr := grown_drew1 (World.grownBy.refl wc none)
            obtain ⟨a', cn, w', hrun, hgr⟩ := append_past b o len1 cap1 gI (Gd.over z1 40) z1 22 wc.drew ((unhide hW1).hold.lists.items.on hdr) (fun i j hi hj => (grown_cell hdr b _ hbl (by simp)).trans (hc i j hi hj)) h40 h60
            have hmany := hide ((unhide hW1).many (a := a') (cn := cn) (grown_trans hdr hgr) h40)
            have q6 := (unhide hW1).eleven.2.2.2.2.2.2.1
            have q6' := ((unhide hW1).on (grown_trans hdr hgr)).eleven.2.2.2.2.2.2.1
            have fT' := ((unhide hW1).on (grown_trans hdr hgr)).hold.box.free
            have hT' : T < w'.heap.size := ((unhide hW1).on (grown_trans hdr hgr)).hold.box.lt
            obtain ⟨m4, hm4⟩ : ∃ m, len1 - 40 = m := ⟨_, rfl⟩
            obtain ⟨c4, hc4⟩ : ∃ m, cap1 - 40 = m := ⟨_, rfl⟩
            rw [hm4, hc4] at hrun
            simp only [hm4, hc4] at hsl
            have hrun' := hide hrun
            clear hc hdr hgr hbl h40 hm4 hc4 hrun
            go_wp2_with fail
            go_region_law (refine step_append_run (by rfl) (.tmp 54) (.tmp 56) 22 (by rfl) _ _ (by rfl) (by rfl) _ _ (unhide hrun') ?_)
            all_goals
              go_wp2_with fail
              go_meet
              exact ⟨_, false, hmany⟩
          · have h40' : ¬ 40 < (len1 : Int) := by omega
            obtain ⟨r, hA⟩ := (unhide hW1).ask (unhide hlv _) (unhide hcc)
            clear h40
            go_wp2_with fail
            go_meet
            exact ⟨_, r, hA⟩
        case rest =>
          obtain ⟨v6, r, hA⟩ := hcut
          clear hW1
          have e11 := (unhide hA).eleven
          have cck := hide (unhide hA).check
          have crk := hide (unhide hA).ref
          unfold Gd.odd at cck crk
          go_upto_region 12 with fail
          go_cut [63] from 59 to 63 (fun v63 wx => v63 = .bool false ∧ Hid (Gd.Ask w wx T gC gE cC cE s g c E v6 r))
          case first =>
            have hdr := hide (grown_drew1 (World.grownBy.refl wc none))
            have hkeep : Hid (∀ x, wc.grownBy x none → (x.cell? ⟨T, 0, none⟩ = some (.int .i64 (s 0)) ∧ x.cell? ⟨T, 1, none⟩ = some (.int .i64 (s 1)) ∧ x.cell? ⟨T, 2, none⟩ = some (.int .i64 (s 2)) ∧ x.cell? ⟨T, 3, none⟩ = some (.int .i64 (s 3)) ∧ x.cell? ⟨T, 4, none⟩ = some (.slice (some ⟨gC, 0, none⟩) 384 cC) ∧ x.cell? ⟨T, 5, none⟩ = some (.slice (some ⟨gE, 0, none⟩) 32 cE) ∧ x.cell? ⟨T, 6, none⟩ = some (v6) ∧ x.cell? ⟨T, 7, none⟩ = some (.int .i64 (g 0)) ∧ x.cell? ⟨T, 8, none⟩ = some (.int .i64 (g 1)) ∧ x.cell? ⟨T, 9, none⟩ = some (.int .i64 (g 2)) ∧ x.cell? ⟨T, 10, none⟩ = some (.int .i64 (g 3)))) := fun x hx => ((unhide hA).on hx).eleven
            cases r
            all_goals
              go_region_held3 (fun x => x.cell? ⟨T, 0, none⟩ = some (.int .i64 (s 0)) ∧ x.cell? ⟨T, 1, none⟩ = some (.int .i64 (s 1)) ∧ x.cell? ⟨T, 2, none⟩ = some (.int .i64 (s 2)) ∧ x.cell? ⟨T, 3, none⟩ = some (.int .i64 (s 3)) ∧ x.cell? ⟨T, 4, none⟩ = some (.slice (some ⟨gC, 0, none⟩) 384 cC) ∧ x.cell? ⟨T, 5, none⟩ = some (.slice (some ⟨gE, 0, none⟩) 32 cE) ∧ x.cell? ⟨T, 6, none⟩ = some (v6) ∧ x.cell? ⟨T, 7, none⟩ = some (.int .i64 (g 0)) ∧ x.cell? ⟨T, 8, none⟩ = some (.int .i64 (g 1)) ∧ x.cell? ⟨T, 9, none⟩ = some (.int .i64 (g 2)) ∧ x.cell? ⟨T, 10, none⟩ = some (.int .i64 (g 3))) (go_keep) (first
                | (go_at_call 16; refine (unhide cck _ (by first | exact unhide hdr | exact unhide hg1)).mono ?_; rintro e wy ⟨rfl, hgy⟩; have hg1 := hide (grown_trans (by first | exact unhide hdr | exact unhide hg1) hgy); have hS := unhide hkeep _ (unhide hg1); clear hgy)
                | (go_at_call 18; refine (unhide crk _ (by first | exact unhide hdr | exact unhide hg1)).mono ?_; rintro e wy ⟨rfl, hgy⟩; have hg1 := hide (grown_trans (by first | exact unhide hdr | exact unhide hg1) hgy); have hS := unhide hkeep _ (unhide hg1); clear hgy))
              all_goals
                go_wp2_with fail
                go_meet
                exact ⟨rfl, (unhide hA).on (unhide hg1)⟩
          case rest =>
            obtain ⟨rfl, hA1⟩ := hcut
            clear hA e11 cck crk
            have e11 := (unhide hA1).eleven
            have crk := hide ((unhide hA1).ref wc (World.grownBy.refl _ _))
            unfold Gd.odd at crk
            go_wp2_with fail
            refine (unhide crk).mono ?_
            rintro e wd ⟨rfl, hg⟩
            have hA2 := hide ((unhide hA1).on hg)
            clear hg crk hA1 e11
            go_upto_if 66 with fail
            go_cut [] from 67 to 69 (fun wx => ∃ (c s g : Nat → Int) (E I : Nat → Nat → Int) (gC gE gI cC cE cI : Nat), Hid (Gd.Live c g E I) ∧ Hid (Gd.Law w wx T gC gE gI cC cE cI s g c E I))
            case first =>
              cases r
              · have hIw := hide ((unhide hIt).on (unhide hA2).grown)
                go_wp2_with fail
                refine (world_live a0 0 0 1 0 a1 len1 cap1 z1 _ (unhide hIw)).mono ?_
                rintro e wv ⟨c', s', g', E', I', hV, jC, jE, jI, dC, dE, dI, rfl, hcap, l1, l2, l3, n1, n2, n3, hL, hg⟩
                have hLv := hide hV
                have hnew : Hid (Gd.Law w (((((((((((wv.setCell ⟨T, 0, none⟩ (.int .i64 (s' 0))).setCell ⟨T, 1, none⟩ (.int .i64 (s' 1))).setCell ⟨T, 2, none⟩ (.int .i64 (s' 2))).setCell ⟨T, 3, none⟩ (.int .i64 (s' 3))).setCell ⟨T, 4, none⟩ (.slice (some ⟨jC, 0, none⟩) 384 dC)).setCell ⟨T, 5, none⟩ (.slice (some ⟨jE, 0, none⟩) 32 dE)).setCell ⟨T, 6, none⟩ (.slice (some ⟨jI, 0, none⟩) 40 dI)).setCell ⟨T, 7, none⟩ (.int .i64 (g' 0))).setCell ⟨T, 8, none⟩ (.int .i64 (g' 1))).setCell ⟨T, 9, none⟩ (.int .i64 (g' 2))).setCell ⟨T, 10, none⟩ (.int .i64 (g' 3))) T jC jE jI dC dE dI s' g' c' E' I') := Gd.law_laid (s := s') (g := g') (cC := dC) (cI := dI) (unhide hA2).grown (unhide hA2).lT (unhide hA2).box hcap l1 l2 l3 n1 n2 n3 hL hg
                have e11 := ((unhide hA2).on hg).eleven
                have fT := ((unhide hA2).on hg).box.free
                clear hcap l1 l2 l3 n1 n2 n3 hL hg hV hA2 hIw
                unfold Gd.world
                go_wp2_with fail
                go_meet
                exact ⟨c', s', g', E', I', jC, jE, jI, dC, dE, dI, hLv, hnew⟩
              · obtain ⟨gI', cI', I', rfl, hLw, hLv⟩ := (unhide hA2).good rfl
                have h1 := hide hLw
                have h2 := hide hLv
                clear hLw hLv
                go_wp2_with fail
                go_meet
                exact ⟨c, s, g, E, I', gC, gE, gI', cC, cE, cI', h2, h1⟩
            case rest =>
              clear hA2 hlv hcc
              obtain ⟨c, s, g, E, I, gC, gE, gI, cC, cE, cI, hLive, hW⟩ := hcut
              obtain ⟨b0, b1, b2, b3, b4, b5, b6, b7, b8, b9, b10⟩ := (unhide hW).eleven
              obtain ⟨A3, hA3⟩ : ∃ x, Gd.three (Gd.wornK I a2 2 40) = x := ⟨_, rfl⟩
              obtain ⟨A2, hA2⟩ : ∃ x, Gd.two (Gd.wornK I a2 3 40) = x := ⟨_, rfl⟩
              have w2e : Gd.wornK I a2 2 40 = decide (0 ≤ Gd.find I 40 3 a2 0) := Gd.worn_at (unhide hLive).fine.ok a2 0
              have w3e : Gd.wornK I a2 3 40 = decide (0 ≤ Gd.find I 40 3 a2 1) := Gd.worn_at (unhide hLive).fine.ok a2 1
              have cb := bonus_any s g c E I gC gE gI cC cE cI a2 _ (unhide hW).hold.lists
              rw [hA3, hA2] at cb
              have cb' := hide cb
              have crb : Hid (∀ x, Gd.Lists x gC gE gI c E I → Calls Try.prog 20 #[.agg (Gd.world s gC gE gI cC cE cI g), .int .i64 a2] x (Says x (.tuple #[.int .i64 A3, .int .i64 A2]))) := fun x hx => by
                have h := refBonus_any s g c E I gC gE gI cC cE cI a2 x hx
                rw [← w2e, ← w3e, hA3, hA2] at h
                exact h
              clear cb hA3 hA2 w2e w3e
              unfold Gd.world at cb' crb
              go_wp2_with fail
              refine (unhide cb').mono ?_
              rintro e w1 ⟨rfl, hg⟩
              have hW1 := hide ((unhide hW).on hg)
              clear hg hW cb' b0 b1 b2 b3 b4 b5 b6 b7 b8 b9 b10
              obtain ⟨b0, b1, b2, b3, b4, b5, b6, b7, b8, b9, b10⟩ := (unhide hW1).eleven
              go_wp2_with fail
              refine (unhide crb _ (unhide hW1).hold.lists).mono ?_
              rintro e w2 ⟨rfl, hg⟩
              have hW2 := hide ((unhide hW1).on hg)
              clear hg hW1 crb b0 b1 b2 b3 b4 b5 b6 b7 b8 b9 b10
              obtain ⟨b0, b1, b2, b3, b4, b5, b6, b7, b8, b9, b10⟩ := (unhide hW2).eleven
              have ctw := hide (refTwin_any s g c E I gC gE gI cC cE cI _ (unhide hW2).hold.lists)
              unfold Gd.world at ctw
              go_wp2_with fail
              refine (unhide ctw).mono ?_
              rintro e wu ⟨uC, uE, uI, eC, eE, eI, rfl, hcap, l1, l2, l3, n1, n2, n3, hL, hg⟩
              have hU := hide (Gd.law_new (s := s) (g := g) (cC := eC) (cI := eI) (unhide hW2).grown hcap l1 l2 l3 n1 n2 n3 hL hg)
              have hW3 := hide ((unhide hW2).on (grown_trans hg (World.grownBy_alloc wu (.cells #[.int .i64 (s 0), .int .i64 (s 1), .int .i64 (s 2), .int .i64 (s 3), .slice (some ⟨uC, 0, none⟩) 384 eC, .slice (some ⟨uE, 0, none⟩) 32 eE, .slice (some ⟨uI, 0, none⟩) 40 eI, .int .i64 (g 0), .int .i64 (g 1), .int .i64 (g 2), .int .i64 (g 3)] 29) none)))
              clear hcap l1 l2 l3 n1 n2 n3 hL hg ctw hW2 b0 b1 b2 b3 b4 b5 b6 b7 b8 b9 b10
              unfold Gd.world at hU ⊢
              go_upto_region 19 with fail
              obtain ⟨U, hUe⟩ : ∃ U, wu.heap.size = U := ⟨_, rfl⟩
              rw [hUe] at hU ⊢
              generalize wu.alloc (.cells #[.int .i64 (s 0), .int .i64 (s 1), .int .i64 (s 2), .int .i64 (s 3), .slice (some ⟨uC, 0, none⟩) 384 eC, .slice (some ⟨uE, 0, none⟩) 32 eE, .slice (some ⟨uI, 0, none⟩) 40 eI, .int .i64 (g 0), .int .i64 (g 1), .int .i64 (g 2), .int .i64 (g 3)] 29) = wd at hU hW3 ⊢
              clear hUe
              obtain ⟨b0, b1, b2, b3, b4, b5, b6, b7, b8, b9, b10⟩ := (unhide hW3).eleven
              have csw := hide (sweep_any s g c E I gC gE gI cC cE cI a2 _ (unhide hW3).hold.lists)
              unfold Gd.world at csw
              go_wp2_with fail
              refine (unhide csw).mono ?_
              rintro e wv ⟨jC, jE, jI, dC, dE, dI, rfl, hcap, l1, l2, l3, n1, n2, n3, hL, hg⟩
              have hV := hide (Gd.law_new (s := s) (g := g) (cC := dC) (cI := dI) (unhide hW3).grown hcap l1 l2 l3 n1 n2 n3 hL hg)
              have hg4 := hide (grown_trans hg (World.grownBy_alloc wv (.cells #[.int .i64 (s 0), .int .i64 (s 1), .int .i64 (s 2), .int .i64 (s 3), .slice (some ⟨jC, 0, none⟩) 384 dC, .slice (some ⟨jE, 0, none⟩) 32 dE, .slice (some ⟨jI, 0, none⟩) 40 dI, .int .i64 (g 0), .int .i64 (g 1), .int .i64 (g 2), .int .i64 (g 3)] 29) none))
              have hW4 := hide ((unhide hW3).on (unhide hg4))
              have hU4 := hide ((unhide hU).on (unhide hg4))
              clear hcap l1 l2 l3 n1 n2 n3 hL hg csw hW3 hU b0 b1 b2 b3 b4 b5 b6 b7 b8 b9 b10
              unfold Gd.world at hV ⊢
              go_upto_region 20 with fail
              obtain ⟨V, hVe⟩ : ∃ V, wv.heap.size = V := ⟨_, rfl⟩
              rw [hVe] at hV ⊢
              generalize wv.alloc (.cells #[.int .i64 (s 0), .int .i64 (s 1), .int .i64 (s 2), .int .i64 (s 3), .slice (some ⟨jC, 0, none⟩) 384 dC, .slice (some ⟨jE, 0, none⟩) 32 dE, .slice (some ⟨jI, 0, none⟩) 40 dI, .int .i64 (g 0), .int .i64 (g 1), .int .i64 (g 2), .int .i64 (g 3)] 29) = wf at hV hW4 hU4 hg4 ⊢
              clear hVe hg4
              have b6 := (unhide hW4).eleven.2.2.2.2.2.2.1
              have hMs := hide (((unhide hMo).on (unhide hW4).grown).some len3 (Nat.le_refl _) (by omega))
              have cl1 := hide (lay_any gI cI len3 cap3 a3 I z3 wf (unhide hW4).hold.lists.items (unhide hMs))
              go_wp2_with fail
              refine (unhide cl1).mono ?_
              rintro e wl ⟨gx, cx, rfl, lx, hlx, hgl⟩
              have hMs2 := hide ((unhide hMs).on hgl)
              have hW5 := hide ((unhide hW4).on hgl)
              have hU5 := hide ((unhide hU4).on hgl)
              have hV5 := hide ((unhide hV).on hgl)
              have hX5 := hide hlx
              clear hlx hgl lx cl1 hMs hW4 hU4 hV b6
              have b6 := (unhide hW5).eleven.2.2.2.2.2.2.1
              have cl2 := hide (refLay_any gI cI len3 cap3 a3 I z3 wl (unhide hW5).hold.lists.items (unhide hMs2))
              go_wp2_with fail
              refine (unhide cl2).mono ?_
              rintro e wm ⟨gy, cy, rfl, ly, hly, hgl⟩
              have hW6 := hide ((unhide hW5).on hgl)
              have hU6 := hide ((unhide hU5).on hgl)
              have hV6 := hide ((unhide hV5).on hgl)
              have hX6 := hide ((unhide hX5).on hgl)
              have hY6 := hide hly
              clear hly hgl ly cl2 hMs2 hW5 hU5 hV5 hX5 b6
              obtain ⟨J, hJ⟩ : ∃ J, Gd.lay I z3 len3 = J := ⟨_, rfl⟩
              rw [hJ] at hX6 hY6
              clear hJ
              go_wp2_with fail
              go_loopw [19] (fun vk wr => ∃ k : Nat, k ≤ 40 ∧ vk = .int .i64 (k : Int) ∧ wm.grownBy wr none) (fun vk _ => 50 - (intOf vk).toNat)
              case atStart => exact ⟨0, by omega, rfl, World.grownBy.refl _ _⟩
              case round =>
                obtain ⟨k, hk, rfl, hgr⟩ := hrel
                have hgr' := hide hgr
                clear hgr
                by_cases hlt : k < 40
                · have hlt' : (k : Int) < 40 := by omega
                  have HK := hide hlt
                  obtain ⟨x0, x1, x2, x3⟩ := (((unhide hX6).on (unhide hgr')).its (n := 40) (by omega) (by omega)).row hlt
                  obtain ⟨y0, y1, y2, y3⟩ := (((unhide hY6).on (unhide hgr')).its (n := 40) (by omega) (by omega)).row hlt
                  have hdr : Hid (∀ m, wm.grownBy (wr.drewN m) none) := fun m => grown_drew (unhide hgr') m
                  clear hlt hk
                  go_wp2_with fail
                  go_quiet (fail)
                  go_wp2
                  go_roundw
                  case rel => exact ⟨k + 1, by have := unhide HK; omega, by go_num, unhide hdr _⟩
                  case measure => simp [intOf]; have := unhide HK; omega
                · have hge : ¬ (k : Int) < 40 := by omega
                  clear hlt hk
                  have hW7 := hide ((unhide hW6).on (unhide hgr'))
                  have hU7 := hide ((unhide hU6).on (unhide hgr'))
                  have hV7 := hide ((unhide hV6).on (unhide hgr'))
                  have hdr := hide (grown_drew1 (World.grownBy.refl wr none))
                  have hcc : Hid (∀ i, 0 ≤ c i ∧ c i ≤ 255) := (unhide hLive).fine.cells
                  have hok := hide (unhide hLive).fine.ok
                  have hkeep : Hid (∀ x, wr.grownBy x none → ((x.cell? ⟨T, 0, none⟩ = some (.int .i64 (s 0)) ∧ x.cell? ⟨T, 1, none⟩ = some (.int .i64 (s 1)) ∧ x.cell? ⟨T, 2, none⟩ = some (.int .i64 (s 2)) ∧ x.cell? ⟨T, 3, none⟩ = some (.int .i64 (s 3)) ∧ x.cell? ⟨T, 4, none⟩ = some (.slice (some ⟨gC, 0, none⟩) 384 cC) ∧ x.cell? ⟨T, 5, none⟩ = some (.slice (some ⟨gE, 0, none⟩) 32 cE) ∧ x.cell? ⟨T, 6, none⟩ = some (.slice (some ⟨gI, 0, none⟩) 40 cI) ∧ x.cell? ⟨T, 7, none⟩ = some (.int .i64 (g 0)) ∧ x.cell? ⟨T, 8, none⟩ = some (.int .i64 (g 1)) ∧ x.cell? ⟨T, 9, none⟩ = some (.int .i64 (g 2)) ∧ x.cell? ⟨T, 10, none⟩ = some (.int .i64 (g 3))) ∧ (x.cell? ⟨U, 0, none⟩ = some (.int .i64 (s 0)) ∧ x.cell? ⟨U, 1, none⟩ = some (.int .i64 (s 1)) ∧ x.cell? ⟨U, 2, none⟩ = some (.int .i64 (s 2)) ∧ x.cell? ⟨U, 3, none⟩ = some (.int .i64 (s 3)) ∧ x.cell? ⟨U, 4, none⟩ = some (.slice (some ⟨uC, 0, none⟩) 384 eC) ∧ x.cell? ⟨U, 5, none⟩ = some (.slice (some ⟨uE, 0, none⟩) 32 eE) ∧ x.cell? ⟨U, 6, none⟩ = some (.slice (some ⟨uI, 0, none⟩) 40 eI) ∧ x.cell? ⟨U, 7, none⟩ = some (.int .i64 (g 0)) ∧ x.cell? ⟨U, 8, none⟩ = some (.int .i64 (g 1)) ∧ x.cell? ⟨U, 9, none⟩ = some (.int .i64 (g 2)) ∧ x.cell? ⟨U, 10, none⟩ = some (.int .i64 (g 3))) ∧ (x.cell? ⟨V, 0, none⟩ = some (.int .i64 (s 0)) ∧ x.cell? ⟨V, 1, none⟩ = some (.int .i64 (s 1)) ∧ x.cell? ⟨V, 2, none⟩ = some (.int .i64 (s 2)) ∧ x.cell? ⟨V, 3, none⟩ = some (.int .i64 (s 3)) ∧ x.cell? ⟨V, 4, none⟩ = some (.slice (some ⟨jC, 0, none⟩) 384 dC) ∧ x.cell? ⟨V, 5, none⟩ = some (.slice (some ⟨jE, 0, none⟩) 32 dE) ∧ x.cell? ⟨V, 6, none⟩ = some (.slice (some ⟨jI, 0, none⟩) 40 dI) ∧ x.cell? ⟨V, 7, none⟩ = some (.int .i64 (g 0)) ∧ x.cell? ⟨V, 8, none⟩ = some (.int .i64 (g 1)) ∧ x.cell? ⟨V, 9, none⟩ = some (.int .i64 (g 2)) ∧ x.cell? ⟨V, 10, none⟩ = some (.int .i64 (g 3))))) := fun x hx => ⟨((unhide hW7).on hx).eleven, ((unhide hU7).on hx).eleven, ((unhide hV7).on hx).eleven⟩
                  have hS0 := unhide hkeep wr (World.grownBy.refl _ _)
                  have cck : Hid (∀ x, wr.grownBy x none → Calls Try.prog 16 #[.agg (Gd.world s gC gE gI cC cE cI g)] x (Says x (.bool true))) := fun x hx => by
                    refine (check_any s g c E I gC gE gI cC cE cI x ((unhide hW7).hold.lists.on hx) (unhide hcc)).mono ?_
                    rintro e w' ⟨r, rfl, hr, hg⟩
                    obtain rfl : r = true := hr.2 (unhide hok)
                    exact ⟨rfl, hg⟩
                  have crk : Hid (∀ x, wr.grownBy x none → Calls Try.prog 18 #[.agg (Gd.world s gC gE gI cC cE cI g)] x (Says x (.bool true))) := fun x hx => by
                    refine (refCheck_any s g c E I gC gE gI cC cE cI x ((unhide hW7).hold.lists.on hx) (unhide hcc)).mono ?_
                    rintro e w' ⟨r, rfl, hr, hg⟩
                    obtain rfl : r = true := hr.2 (unhide hok)
                    exact ⟨rfl, hg⟩
                  have csw : Hid (∀ x, wr.grownBy x none → Calls Try.prog 23 #[.agg (Gd.world s uC uE uI eC eE eI g), .int .i64 a2] x (Gd.Worlds x s g c E (Gd.sweep I a2))) := fun x hx => refSweep_any s g c E I uC uE uI eC eE eI a2 x ((unhide hU7).hold.lists.on hx)
                  have cs1 : Hid (∀ (kC kE kI e1 e2 e3 : Nat) (x : World), wr.grownBy x none → Gd.Lists x kC kE kI c E (Gd.sweep I a2) → Calls Try.prog 14 #[.agg (Gd.world s jC jE jI dC dE dI g), .agg (Gd.world s kC kE kI e1 e2 e3 g)] x (Says x (.bool true))) := fun kC kE kI e1 e2 e3 x hx hL => same7_any s g c E (Gd.sweep I a2) jC jE jI dC dE dI kC kE kI e1 e2 e3 x ((unhide hV7).hold.lists.on hx) hL
                  have cs2 : Hid (∀ (x : World), wr.grownBy x none → Calls Try.prog 14 #[.agg (Gd.world s gC gE gI cC cE cI g), .agg (Gd.world s uC uE uI eC eE eI g)] x (Says x (.bool true))) := fun x hx => same7_any s g c E I gC gE gI cC cE cI uC uE uI eC eE eI x ((unhide hW7).hold.lists.on hx) ((unhide hU7).hold.lists.on hx)
                  unfold Gd.world at cck crk csw cs1 cs2
                  go_upto_region 29 with fail
                  go_region_held3 (fun x => (x.cell? ⟨T, 0, none⟩ = some (.int .i64 (s 0)) ∧ x.cell? ⟨T, 1, none⟩ = some (.int .i64 (s 1)) ∧ x.cell? ⟨T, 2, none⟩ = some (.int .i64 (s 2)) ∧ x.cell? ⟨T, 3, none⟩ = some (.int .i64 (s 3)) ∧ x.cell? ⟨T, 4, none⟩ = some (.slice (some ⟨gC, 0, none⟩) 384 cC) ∧ x.cell? ⟨T, 5, none⟩ = some (.slice (some ⟨gE, 0, none⟩) 32 cE) ∧ x.cell? ⟨T, 6, none⟩ = some (.slice (some ⟨gI, 0, none⟩) 40 cI) ∧ x.cell? ⟨T, 7, none⟩ = some (.int .i64 (g 0)) ∧ x.cell? ⟨T, 8, none⟩ = some (.int .i64 (g 1)) ∧ x.cell? ⟨T, 9, none⟩ = some (.int .i64 (g 2)) ∧ x.cell? ⟨T, 10, none⟩ = some (.int .i64 (g 3))) ∧ (x.cell? ⟨U, 0, none⟩ = some (.int .i64 (s 0)) ∧ x.cell? ⟨U, 1, none⟩ = some (.int .i64 (s 1)) ∧ x.cell? ⟨U, 2, none⟩ = some (.int .i64 (s 2)) ∧ x.cell? ⟨U, 3, none⟩ = some (.int .i64 (s 3)) ∧ x.cell? ⟨U, 4, none⟩ = some (.slice (some ⟨uC, 0, none⟩) 384 eC) ∧ x.cell? ⟨U, 5, none⟩ = some (.slice (some ⟨uE, 0, none⟩) 32 eE) ∧ x.cell? ⟨U, 6, none⟩ = some (.slice (some ⟨uI, 0, none⟩) 40 eI) ∧ x.cell? ⟨U, 7, none⟩ = some (.int .i64 (g 0)) ∧ x.cell? ⟨U, 8, none⟩ = some (.int .i64 (g 1)) ∧ x.cell? ⟨U, 9, none⟩ = some (.int .i64 (g 2)) ∧ x.cell? ⟨U, 10, none⟩ = some (.int .i64 (g 3))) ∧ (x.cell? ⟨V, 0, none⟩ = some (.int .i64 (s 0)) ∧ x.cell? ⟨V, 1, none⟩ = some (.int .i64 (s 1)) ∧ x.cell? ⟨V, 2, none⟩ = some (.int .i64 (s 2)) ∧ x.cell? ⟨V, 3, none⟩ = some (.int .i64 (s 3)) ∧ x.cell? ⟨V, 4, none⟩ = some (.slice (some ⟨jC, 0, none⟩) 384 dC) ∧ x.cell? ⟨V, 5, none⟩ = some (.slice (some ⟨jE, 0, none⟩) 32 dE) ∧ x.cell? ⟨V, 6, none⟩ = some (.slice (some ⟨jI, 0, none⟩) 40 dI) ∧ x.cell? ⟨V, 7, none⟩ = some (.int .i64 (g 0)) ∧ x.cell? ⟨V, 8, none⟩ = some (.int .i64 (g 1)) ∧ x.cell? ⟨V, 9, none⟩ = some (.int .i64 (g 2)) ∧ x.cell? ⟨V, 10, none⟩ = some (.int .i64 (g 3)))) (go_keep) (first
                    | (go_at_call 16; refine (unhide cck _ (by first | exact unhide hdr | exact unhide hg1)).mono ?_; rintro e wy ⟨rfl, hgy⟩; have hg1 := hide (grown_trans (by first | exact unhide hdr | exact unhide hg1) hgy); have hS := unhide hkeep _ (unhide hg1); clear hgy)
                    | (go_at_call 18; refine (unhide crk _ (by first | exact unhide hdr | exact unhide hg1)).mono ?_; rintro e wy ⟨rfl, hgy⟩; have hg1 := hide (grown_trans (by first | exact unhide hdr | exact unhide hg1) hgy); have hS := unhide hkeep _ (unhide hg1); clear hgy)
                    | (go_at_call 23; refine (unhide csw _ (unhide hg1)).mono ?_; rintro e wx ⟨kC, kE, kI, e1, e2, e3, rfl, -, -, -, -, -, -, -, hLK, hgK⟩; have hg1 := hide (grown_trans (unhide hg1) hgK); have hS := unhide hkeep _ (unhide hg1); have hLK' := hide hLK; clear hLK hgK; unfold Gd.world)
                    | (go_at_call_of 14 (Value.agg #[.int .i64 (s 0), .int .i64 (s 1), .int .i64 (s 2), .int .i64 (s 3), .slice (some ⟨jC, 0, none⟩) 384 dC, .slice (some ⟨jE, 0, none⟩) 32 dE, .slice (some ⟨jI, 0, none⟩) 40 dI, .int .i64 (g 0), .int .i64 (g 1), .int .i64 (g 2), .int .i64 (g 3)]); refine (unhide cs1 _ _ _ _ _ _ _ (unhide hg1) (unhide hLK')).mono ?_; rintro e wy ⟨rfl, hgy⟩; have hg1 := hide (grown_trans (unhide hg1) hgy); have hS := unhide hkeep _ (unhide hg1); clear hgy)
                    | (go_at_call_of 14 (Value.agg #[.int .i64 (s 0), .int .i64 (s 1), .int .i64 (s 2), .int .i64 (s 3), .slice (some ⟨gC, 0, none⟩) 384 cC, .slice (some ⟨gE, 0, none⟩) 32 cE, .slice (some ⟨gI, 0, none⟩) 40 cI, .int .i64 (g 0), .int .i64 (g 1), .int .i64 (g 2), .int .i64 (g 3)]); refine (unhide cs2 _ (unhide hg1)).mono ?_; rintro e wz ⟨rfl, hgz⟩; have hg1 := hide (grown_trans (unhide hg1) hgz); have hS := unhide hkeep _ (unhide hg1); clear hgz))
                  all_goals
                    have hfin := hide (grown_trans (unhide hW7).grown (unhide hg1))
                    go_wp2
                    go_ret
                    exact ⟨rfl, none_below (unhide hfin)⟩
    · have h60' : ¬ 60 < (len1 : Int) := by omega
      have k60' : 60 < (len3 : Int) := by omega
      go_wp2
      go_ret
      exact ⟨rfl, none_below (unhide hgk')⟩
  · have h60' : 60 < (len1 : Int) := by omega
    go_wp2
    go_ret
    exact ⟨rfl, none_below (unhide hgk')⟩

set_option maxRecDepth 100000 in
theorem lifted (os : Os) (started : os.Started) (H : Type) (enc : TypeId × Value → H) :
    ReturnsInHanded {} Try.checked os 5 .any (Rows.goodsAsksSpec.pre6 enc Try.prog Try.f5 Rows.goodsAsksRow.domain false) (Rows.goodsAsksSpec.post enc Try.prog Try.f5 false true false false) := by
  refine returnsInHanded_of_change (C := Try.checked) own started (by kernel_rfl) Try.func5
    (ChangeSpec.witness6 (enc := enc) (C := Try.checked) false ⟨#[], #[.int .i64 0, .slice none 0 0, .int .i64 0, .slice none 0 0], []⟩ 8 (by kernel_rfl) (by kernel_rfl) (by kernel_rfl) (by kernel_rfl)) ?_
  intro W base args ds gs before hval0 hW hcnd _
  have hval : ∀ (j : Nat) t v, Try.f5.params[j]? = some t → args[j]? = some v → Value.okWide Try.prog W .any base t v := hval0
  have hW' := hW
  obtain ⟨p, q, hA0, hV, rfl, hfz, hnd⟩ := hW
  have hA : DataW.TrodAll enc Try.prog W 0 (fun _ => true) true Try.f5.params.toList args.toList ds p := hA0
  rw [Try.params5] at hA hval
  obtain ⟨v0, vs0, d0, ds0, p0, q0, hargs, rfl, rfl, h0, r0⟩ := trodAll_cons hA
  obtain ⟨v1, vs1, d1, ds1, p1, q1, rfl, rfl, rfl, h1, r1⟩ := trodAll_cons r0
  obtain ⟨v2, vs2, d2, ds2, p2, q2, rfl, rfl, rfl, h2, r2⟩ := trodAll_cons r1
  obtain ⟨v3, vs3, d3, ds3, p3, q3, rfl, rfl, rfl, h3, r3⟩ := trodAll_cons r2
  obtain ⟨rfl, rfl, rfl⟩ := trodAll_nil r3
  obtain rfl : args = #[v0, v1, v2, v3] := by cases args; simp_all
  obtain ⟨rfl, rfl⟩ := trodVars_none hV
  obtain ⟨a0, rfl, rfl, rfl, w0⟩ := open_int Try.underlying2 (hval 0 2 v0 rfl rfl) h0
  obtain ⟨a1, len1, cap1, rfl⟩ := okWide_slice Try.underlying22 (hval 1 22 v1 rfl rfl)
  have k1 := h1
  have lt1 : ∀ x ∈ p1, x.block < W.heap.size := by obtain ⟨m, hm⟩ := k1; exact DataW.trod_lt m _ _ _ hm
  obtain ⟨z1, w1⟩ : ∃ M, ItArg W a1 len1 cap1 M := by
    obtain ⟨fuel, hf⟩ := h1
    exact open_items (by simpa [Value.cells] using hf)
  obtain ⟨a2, rfl, rfl, rfl, w2⟩ := open_int Try.underlying3 (hval 2 3 v2 rfl rfl) h2
  obtain ⟨a3, len3, cap3, rfl⟩ := okWide_slice Try.underlying22 (hval 3 22 v3 rfl rfl)
  have k3 := h3
  have lt3 : ∀ x ∈ p3, x.block < W.heap.size := by obtain ⟨m, hm⟩ := k3; exact DataW.trod_lt m _ _ _ hm
  obtain ⟨z3, w3⟩ : ∃ M, ItArg W a3 len3 cap3 M := by
    obtain ⟨fuel, hf⟩ := h3
    exact open_items (by simpa [Value.cells] using hf)
  clear hA0 hval0
  refine (walk a0 a1 len1 cap1 z1 a2 a3 len3 cap3 z3 W w0 w1 w2 w3).mono fun e W' ⟨he, bel⟩ => ?_
  subst he
  exact ⟨_, rfl, _, _, _, [], _, [], hW', trodAll_mk1 (shut_bool Try.underlying4 _), (trodAll_cons_mk (shut_int Try.underlying2 w0) (trodAll_cons_mk (Below.trod laidOut (by kernel_rfl) (of_decide_eq_true (by kernel_rfl)) k1 bel lt1) (trodAll_cons_mk (shut_int Try.underlying3 w2) (trodAll_cons_mk (Below.trod laidOut (by kernel_rfl) (of_decide_eq_true (by kernel_rfl)) k3 bel lt3) trodAll_mk0)))), rfl, bel.frame _, fun h => by cases h⟩

theorem over : Rows.goodsAsksRow.holds Try.pinned (OpenSpec.ofChange Rows.goodsAsksSpec) :=
  OpenClaim.holds_of_wide 5 Try.f5 rfl rfl rfl rfl rfl rfl rfl ⟨rfl, rfl, rfl, rfl, rfl⟩ rfl rfl rfl rfl rfl (by kernel_rfl) Try.func5 (by kernel_rfl)
    (of_decide_eq_true (by kernel_rfl)) (by unfold Func.isWrapper; first | (rw [if_pos (by decide +kernel)]; kernel_rfl) | (rw [if_neg (by decide +kernel)]; exact ⟨rfl, rfl⟩))
    (fun os started H enc _ => lifted os started H enc)

theorem proved : Rows.GoodsAsksSaid := over
#print axioms proved
end Go.Proofs.Ytgkomdpceilggaa.goodsAsks
