/-
  Hit points stay from 1 to their most while a row is taken, a free row has nothing but its number, and a hero that falls leaves nothing in bag or hand: for every seed, floor, kinds, items, frame and rows of blows, at this commit; no condition.
-/
import Derived.Test.YtgkomdpceilggaaRows
import Derived.WalkKit
import Derived.ProofKit
import Derived.OpenShut
import Derived.Test.YtgkomdpceilggaaPart33
import Derived.Test.YtgkomdpceilggaaPart19
import Derived.BigQuiet
import Derived.Deep.Cut
import Derived.Deep.CutRange
import Derived.Deep.CutBlock
import Derived.Deep.RegionWith
import Derived.Deep.RegionHeld3
import Derived.ShutString
import Derived.ChangeOld
import Derived.Below
namespace Go.Proofs.Ytgkomdpceilggaa.fightBounds
open Go.ChangeShapes Go.WideShapes Go.ChangeAt Go.RowKit
open Go.ChangeMaps (open_string shut_string)
set_option linter.unusedVariables false

theorem own : ownKnob Try.prog.godebug = none := by kernel_rfl
theorem laidOut : laidOutB Try.prog = true := by kernel_rfl

/-- WHAT THE WALK IS TOLD OF A SLICE OF INTEGERS THAT CAME IN: it is nil; or it leads to a row of 'cap' cells, the numbers 'zs' (the first 'len' are its elements, the rest its spare room), each fitting its kind. -/
def IsRow (k : IntKind) (w : World) (a : Option Addr) (len cap : Nat) (zs : List Int) : Prop :=
  (a = none ∧ len = 0 ∧ cap = 0 ∧ zs = []) ∨
  ∃ x, a = some x ∧ len ≤ cap ∧ cap ≤ maxLen ∧ zs.length = cap ∧ (∀ i, i < zs.length → w.cell? (x.add i) = some (.int k (zs.getD i 0))) ∧ ∀ n ∈ zs, (Lit.int k n).wf = true

theorem IsRow.num {w : World} {a : Option Addr} {len cap : Nat} {zs : List Int} (h : IsRow .i64 w a len cap zs) : NumArg w a len (fun i => zs.getD i 0) := by
  rcases h with ⟨rfl, rfl, rfl, rfl⟩ | ⟨x, rfl, hl, hm, hz, hcell, _⟩
  · exact ⟨Nat.zero_le _, .inl rfl⟩
  · refine ⟨Nat.le_trans hl hm, ?_⟩
    by_cases h0 : len = 0
    · exact .inl h0
    · right
      obtain ⟨b, off, spot⟩ := x
      have hspot : spot = none := by simpa [Addr.add] using World.cell?_spot (hcell 0 (by omega))
      subst hspot
      have hlt := Go.block_lt_of_cell (hcell 0 (by omega))
      refine ⟨b, off, rfl, by simpa [Addr.add] using hlt, fun i hi => ?_⟩
      have h := hcell i (by omega)
      by_cases hi0 : i = 0
      · subst hi0
        simpa [Addr.add] using h
      · simpa [Addr.add, hi0] using h


set_option maxRecDepth 8000 in
set_option maxHeartbeats 12800000 in

theorem walk (a0 : Int) (a1 : Int) (a2 : Option Addr) (len2 cap2 : Nat) (z2 : List Int) (a3 : Option Addr) (len3 cap3 : Nat) (z3 : Nat → Nat → Int) (a4 : Int) (a5 : Option Addr) (len5 cap5 : Nat) (z5 : List Int) (a6 : Option Addr) (len6 cap6 : Nat) (z6 : List Int) (w : World) (w0 : (Lit.int .i64 a0).wf = true) (w1 : (Lit.int .i64 a1).wf = true) (w2 : IsRow .i64 w a2 len2 cap2 z2) (w3 : ItArg w a3 len3 cap3 z3) (w4 : (Lit.int .i64 a4).wf = true) (w5 : IsRow .i64 w a5 len5 cap5 z5) (w6 : IsRow .i64 w a6 len6 cap6 z6) :
    Calls Try.prog 8 #[.int .i64 a0, .int .i64 a1, .slice a2 len2 cap2, .slice a3 len3 cap3, .int .i64 a4, .slice a5 len5 cap5, .slice a6 len6 cap6] w fun e w' => e = .returned (.bool true) ∧ Below w.heap.size w w' := by
  have hKd := hide (IsRow.num w2)
  have hFr := hide (IsRow.num w5)
  have hTo := hide (IsRow.num w6)
  have hIt := hide w3
  have hm5 := (unhide hFr).most
  have hm6 := (unhide hTo).most
  unfold maxLen at hm5 hm6
  clear w0 w1 w2 w3 w4 w5 w6
  obtain ⟨f, hf⟩ : ∃ f : Nat → Int, f = fun i => z5.getD i 0 := ⟨_, rfl⟩
  rw [← hf] at hFr
  obtain ⟨h, hh⟩ : ∃ f : Nat → Int, f = fun i => z6.getD i 0 := ⟨_, rfl⟩
  rw [← hh] at hTo
  clear hf hh
  obtain ⟨W, hW⟩ : ∃ W : Int → Int, Hid (∀ a, W a = a % 32) := ⟨fun a => a % 32, fun _ => rfl⟩
  have cW : Hid (∀ a wq, Calls Try.prog 33 #[.int .i64 a, .int .i64 32] wq fun e w' => e = .returned (.int .i64 (W a)) ∧ w' = wq) := fun a wq => by
    rw [unhide hW]
    exact within8_any a 32 wq (by omega) (by omega)
  clear hW
  go_enter Try.func8, Try.ntmps8
  go_wp2_with fail
  refine (known8_any _).mono ?_
  rintro e wk ⟨rfl, hgk⟩
  have hIk := hide ((unhide hIt).on hgk)
  have hKk := hide ((unhide hKd).on hgk)
  have hgk' := hide hgk
  clear hgk hIt hKd
  go_wp2_with fail
  refine (crowd_any a0 a1 a4 a2 len2 cap2 _ a3 len3 cap3 z3 wk (unhide hKk) (unhide hIk)).mono ?_
  rintro e wa ⟨c, s, g, E, I, hFit, -, hh0, -, gC, gE, gI, cC, cE, cI, rfl, hcap, l1, l2, l3, n1, n2, n3, hL, hg⟩
  have hW := hide (Gd.law_new (s := s) (g := g) (cC := cC) (cI := cI) (unhide hgk') hcap l1 l2 l3 n1 n2 n3 hL hg)
  have hF := hide hFit
  have hC := hide (Ft.Clean.born (I := I) hh0)
  clear hcap l1 l2 l3 n1 n2 n3 hL hg hFit hh0 hIk hKk hgk'
  unfold Gd.world at hW ⊢
  go_upto_region 4 with fail
  obtain ⟨T, hT⟩ : ∃ T, wa.heap.size = T := ⟨_, rfl⟩
  rw [hT] at hW ⊢
  generalize wa.alloc (.cells #[.int .i64 (s 0), .int .i64 (s 1), .int .i64 (s 2), .int .i64 (s 3), .slice (some ⟨gC, 0, none⟩) 384 cC, .slice (some ⟨gE, 0, none⟩) 32 cE, .slice (some ⟨gI, 0, none⟩) 40 cI, .int .i64 (g 0), .int .i64 (g 1), .int .i64 (g 2), .int .i64 (g 3)] 29) = wb at hW ⊢
  clear hT
  go_upto_block 0 with fail
  go_cut [] from 16 (fun wx => ∃ (E I : Nat → Nat → Int) (gC gE gI cC cE cI : Nat), Hid (Ft.Fit c E I) ∧ Hid (Ft.Clean E I) ∧ Hid (Gd.Law w wx T gC gE gI cC cE cI s g c E I))
  case first =>
    go_wp2_with fail
    go_loopw [16] (fun vi wr => ∃ (i : Nat) (E I : Nat → Nat → Int) (gC gE gI cC cE cI : Nat), i ≤ 20 ∧ vi = .int .i64 (i : Int) ∧ Hid (Ft.Fit c E I) ∧ Hid (Ft.Clean E I) ∧ Hid (Gd.Law w wr T gC gE gI cC cE cI s g c E I)) (fun vi _ => 30 - (intOf vi).toNat)
    case atStart => exact ⟨0, E, I, gC, gE, gI, cC, cE, cI, by omega, rfl, hF, hC, hW⟩
    case round =>
      clear hF hC hW
      obtain ⟨i, E, I, gC, gE, gI, cC, cE, cI, hi20, rfl, hF, hC, hW⟩ := hrel
      by_cases hlt : i < len5 ∧ i < len6 ∧ i < 20
      · have hlt1 : (i : Int) < (len5 : Int) := by omega
        have hlt2 : (i : Int) < (len6 : Int) := by omega
        have hlt3 : (i : Int) < 20 := by omega
        have HL := hide hlt
        obtain ⟨p, o, rfl, hpl, hp⟩ := ((unhide hFr).on (unhide hW).grown).at hlt.1
        obtain ⟨q, u, rfl, hql, hq⟩ := ((unhide hTo).on (unhide hW).grown).at hlt.2.1
        obtain ⟨b0, b1, b2, b3, b4, b5, b6, b7, b8, b9, b10⟩ := (unhide hW).eleven
        obtain ⟨x, hx⟩ : ∃ v, f i = v := ⟨_, rfl⟩
        obtain ⟨y, hy⟩ : ∃ v, h i = v := ⟨_, rfl⟩
        rw [hx] at hp
        rw [hy] at hq
        have hWd := hide ((unhide hW).on (grown_drew1 (World.grownBy.refl _ none)))
        have ch := hide (fightHit_any s g c E I gC gE gI cC cE cI (W x) (W y) wr.drew (unhide hWd).hold.lists (unhide hF))
        have hF1 := hide ((unhide hF).hit s (W x) (W y))
        have hC1 := hide ((unhide hC).hit s (W x) (W y))
        obtain ⟨E1, hE1⟩ : ∃ G, Ft.hitE s E I (W x) (W y) = G := ⟨_, rfl⟩
        obtain ⟨I1, hI1⟩ : ∃ G, Ft.hitI s E I (W x) (W y) = G := ⟨_, rfl⟩
        rw [hE1, hI1] at ch hF1 hC1
        clear hE1 hI1 hlt hi20 hx hy hF hC
        unfold Gd.world at ch
        go_upto_region 7 with fail
        go_cut [] from 45 to 56 (fun wx => ∃ jC jE jI dC dE dI, Hid (Gd.Law w wx T jC jE jI dC dE dI s g c E1 I1))
        case first =>
          go_region_with (first | (go_at_call 33; refine (unhide cW _ _).mono ?_; rintro e wy ⟨rfl, hy⟩; subst wy) | (go_at_call 27; refine (unhide ch).mono ?_; rintro e wv ⟨jC, jE, jI, dC, dE, dI, rfl, hcap, l1, l2, l3, n1, n2, n3, hL, hg⟩; have hst := hide ((unhide hWd).over (s' := s) (g' := g) (dC := dC) (dI := dI) hcap l1 l2 l3 n1 n2 n3 hL hg); obtain ⟨y0, y1, y2, y3, y4, y5, y6, y7, y8, y9, y10⟩ := ((unhide hWd).on hg).eleven; have fT := ((unhide hWd).on hg).hold.box.free; clear hcap l1 l2 l3 n1 n2 n3 hL hg b0 b1 b2 b3 b4 b5 b6 b7 b8 b9 b10 hp hq; unfold Gd.world at hst ⊢))
          all_goals
            go_wp2_with fail
            go_meet
            exact ⟨jC, jE, jI, dC, dE, dI, hst⟩
        case rest =>
          clear hW hWd ch b0 b1 b2 b3 b4 b5 b6 b7 b8 b9 b10 hp hq hpl hql
          obtain ⟨gC, gE, gI, cC, cE, cI, hW⟩ := hcut
          go_upto_if 59 with fail
          go_cut [] from 57 to 61 (fun wx => ∃ (E I : Nat → Nat → Int) (gC gE gI cC cE cI : Nat), Hid (Ft.Fit c E I) ∧ Hid (Ft.Clean E I) ∧ Hid (Gd.Law w wx T gC gE gI cC cE cI s g c E I))
          case first =>
            obtain ⟨b0, b1, b2, b3, b4, b5, b6, b7, b8, b9, b10⟩ := (unhide hW).eleven
            have ca := hide (fightAil_any s g c E1 I1 gC gE gI cC cE cI _ (unhide hW).hold.lists (unhide hF1))
            have hF2 := hide ((unhide hF1).ail 32 (by omega))
            have hC2 := hide ((unhide hC1).ail 32)
            obtain ⟨P, hP⟩ : ∃ P, Ft.ailE E1 I1 32 = P := ⟨_, rfl⟩
            obtain ⟨E2, I2⟩ := P
            rw [hP] at ca hF2 hC2
            clear hP
            unfold Gd.world at ca
            go_wp2_with (first | (go_at_call 31; refine (unhide ca).mono ?_; rintro e wv ⟨jC, jE, jI, dC, dE, dI, rfl, hcap, l1, l2, l3, n1, n2, n3, hL, hg⟩; have hst := hide ((unhide hW).over (s' := s) (g' := g) (dC := dC) (dI := dI) hcap l1 l2 l3 n1 n2 n3 hL hg); obtain ⟨y0, y1, y2, y3, y4, y5, y6, y7, y8, y9, y10⟩ := ((unhide hW).on hg).eleven; have fT := ((unhide hW).on hg).hold.box.free; clear hcap l1 l2 l3 n1 n2 n3 hL hg b0 b1 b2 b3 b4 b5 b6 b7 b8 b9 b10; unfold Gd.world at hst ⊢))
            all_goals
              go_meet
              first
                | exact ⟨E2, I2, jC, jE, jI, dC, dE, dI, hF2, hC2, hst⟩
                | exact ⟨E1, I1, gC, gE, gI, cC, cE, cI, hF1, hC1, hW⟩
          case rest =>
            clear hW hF1 hC1
            obtain ⟨E, I, gC, gE, gI, cC, cE, cI, hF, hC, hW⟩ := hcut
            go_upto_block 2 with fail
            go_cut [] from 62 to 110 (fun wx => Hid (Gd.Law w wx T gC gE gI cC cE cI s g c E I))
            case first =>
              go_wp2_with fail
              go_loopw [17] (fun vj wr => ∃ j : Nat, j ≤ 32 ∧ vj = .int .i64 (j : Int) ∧ Hid (Gd.Law w wr T gC gE gI cC cE cI s g c E I)) (fun vj _ => 40 - (intOf vj).toNat)
              case atStart => exact ⟨0, by omega, rfl, hW⟩
              case round =>
                clear hW
                obtain ⟨j, hj, rfl, hW⟩ := hrel
                have q5 := (unhide hW).eleven.2.2.2.2.2.1
                by_cases hjl : j < 32
                · have hjl' : (j : Int) < 32 := by omega
                  have HJ := hide hjl
                  have hR := (unhide hF).rows j hjl
                  obtain ⟨u0, u1, u2, u3, u4, u5, u6, u7, u8, u9, u10⟩ := (unhide hW).hold.lists.own.ents.row hjl
                  have hW2 : Hid (∀ o : Obj, Gd.Law w (wr.alloc o) T gC gE gI cC cE cI s g c E I) := fun o => (unhide hW).on (World.grownBy_alloc _ _ _)
                  rcases hR.2.2 with hz | ht
                  · rw [hz 0 (by omega) (by omega)] at u0
                    rw [hz 2 (by omega) (by omega)] at u2
                    rw [hz 3 (by omega) (by omega)] at u3
                    rw [hz 4 (by omega) (by omega)] at u4
                    rw [hz 5 (by omega) (by omega)] at u5
                    rw [hz 6 (by omega) (by omega)] at u6
                    rw [hz 7 (by omega) (by omega)] at u7
                    rw [hz 8 (by omega) (by omega)] at u8
                    rw [hz 9 (by omega) (by omega)] at u9
                    rw [hz 10 (by omega) (by omega)] at u10
                    have hne := fun wx => run_ne_free (E j 1) wx
                    clear hz hR hjl hj
                    go_wp2
                    go_roundw
                    case rel => exact ⟨j + 1, by have := unhide HJ; omega, by go_num, unhide hW2 _⟩
                    case measure => simp [intOf]; have := unhide HJ; omega
                  · have t0 : (E j 0 == 0) = false := by simp; omega
                    have t0' : (E j 0 != 0) = true := by simp; omega
                    have t1 : ¬ E j 5 < 1 := by omega
                    have t2 : ¬ E j 6 < E j 5 := by omega
                    have t3 : ¬ 9 < E j 9 := by omega
                    have t4 : ¬ 9 < E j 10 := by omega
                    clear hR hjl hj ht
                    go_wp2
                    go_roundw
                    case rel => exact ⟨j + 1, by have := unhide HJ; omega, by go_num, unhide hW2 _⟩
                    case measure => simp [intOf]; have := unhide HJ; omega
                · obtain rfl : j = 32 := by omega
                  have hge : ¬ ((32 : Nat) : Int) < 32 := by omega
                  clear hjl hj
                  go_wp2_with fail
                  go_meet
                  exact hW
            case rest =>
              clear hW
              have hW := hide (unhide hcut)
              clear hcut
              go_wp2_with fail
              go_loopw [19] (fun vn wr => ∃ n : Nat, n ≤ 4 ∧ vn = .int .i64 (n : Int) ∧ Hid (Gd.Law w wr T gC gE gI cC cE cI s g c E I)) (fun vn _ => 10 - (intOf vn).toNat)
              case atStart => exact ⟨0, by omega, rfl, hW⟩
              case round =>
                clear hW
                obtain ⟨n, hn, rfl, hW⟩ := hrel
                by_cases hnl : n < 4
                · have hnl' : (n : Int) < 4 := by omega
                  have HN := hide hnl
                  clear hnl hn
                  go_wp2_with fail
                  go_loopw [20] (fun vj wr => ∃ j : Nat, j ≤ 40 ∧ vj = .int .i64 (j : Int) ∧ Hid (Gd.Law w wr T gC gE gI cC cE cI s g c E I)) (fun vj _ => 50 - (intOf vj).toNat)
                  case atStart => exact ⟨0, by omega, rfl, hW⟩
                  case round =>
                    clear hW
                    obtain ⟨j, hj, rfl, hW⟩ := hrel
                    have q5 := (unhide hW).eleven.2.2.2.2.2.1
                    have q6 := (unhide hW).eleven.2.2.2.2.2.2.1
                    by_cases hjl : j < 40
                    · have hjl' : (j : Int) < 40 := by omega
                      have HJ := hide hjl
                      by_cases hn0 : n = 0
                      · have hn1 : (n : Int) = 0 := by omega
                        have hn2 : ((n : Int) == 0) = true := by simpa using hn0
                        have ch := hide (refHero7_any gE cE E (n : Int) _ (unhide hW).hold.lists.own)
                        by_cases hlow : Gd.hero E (n : Int) < 0
                        · have hcl := (unhide hC).gone (by have h := hlow; rw [hn1] at h; exact h) j
                          rw [← hn1] at hcl
                          obtain ⟨v, hv⟩ : ∃ v, Gd.hero E (n : Int) = v := ⟨_, rfl⟩
                          rw [hv] at ch hlow
                          clear hjl hj hv hn0 hn1
                          by_cases h2 : I j 2 = (n : Int)
                          · have h3 : (I j 1 == 2) = false := by
                              have : ¬ I j 1 = 2 := fun e => hcl ⟨.inl e, h2⟩
                              simpa using this
                            have h4 : (I j 1 == 3) = false := by
                              have : ¬ I j 1 = 3 := fun e => hcl ⟨.inr e, h2⟩
                              simpa using this
                            have H2 := hide h2
                            clear hcl h2
                            go_wp2_with (first | (go_at_call 24; refine (unhide ch).mono ?_; rintro e wh ⟨rfl, hg⟩; have hW2 := hide ((unhide hW).on hg); clear hg; have q5' := (unhide hW2).eleven.2.2.2.2.2.1; have q6' := (unhide hW2).eleven.2.2.2.2.2.2.1; obtain ⟨x0, x1, x2, x3⟩ := (unhide hW2).hold.lists.its.row (unhide HJ); rw [unhide H2] at x2))
                            go_roundw
                            case rel => exact ⟨j + 1, by have := unhide HJ; omega, by go_num, hW2⟩
                            case measure => simp [intOf]; have := unhide HJ; omega
                          · have h2' : (I j 2 == (n : Int)) = false := by simpa using h2
                            clear hcl h2
                            go_wp2_with (first | (go_at_call 24; refine (unhide ch).mono ?_; rintro e wh ⟨rfl, hg⟩; have hW2 := hide ((unhide hW).on hg); clear hg; have q5' := (unhide hW2).eleven.2.2.2.2.2.1; have q6' := (unhide hW2).eleven.2.2.2.2.2.2.1; obtain ⟨x0, x1, x2, x3⟩ := (unhide hW2).hold.lists.its.row (unhide HJ)))
                            go_roundw
                            case rel => exact ⟨j + 1, by have := unhide HJ; omega, by go_num, hW2⟩
                            case measure => simp [intOf]; have := unhide HJ; omega
                        · have hlow' : ¬ Gd.hero E (n : Int) < 0 := hlow
                          obtain ⟨v, hv⟩ : ∃ v, Gd.hero E (n : Int) = v := ⟨_, rfl⟩
                          rw [hv] at ch hlow'
                          clear hjl hj hv hlow hn0 hn1
                          go_wp2_with (first | (go_at_call 24; refine (unhide ch).mono ?_; rintro e wh ⟨rfl, hg⟩; have hW2 := hide ((unhide hW).on hg); clear hg))
                          go_roundw
                          case rel => exact ⟨n + 1, by have := unhide HN; omega, by go_num, hW2⟩
                          case measure => simp [intOf]; have := unhide HN; omega
                      · have hn0' : ((n : Int) == 0) = false := by simp; omega
                        clear hjl hj hn0
                        go_wp2
                        go_roundw
                        case rel => exact ⟨n + 1, by have := unhide HN; omega, by go_num, hW⟩
                        case measure => simp [intOf]; have := unhide HN; omega
                    · obtain rfl : j = 40 := by omega
                      have hge : ¬ ((40 : Nat) : Int) < 40 := by omega
                      clear hjl hj
                      go_wp2
                      go_roundw
                      case rel => exact ⟨n + 1, by have := unhide HN; omega, by go_num, hW⟩
                      case measure => simp [intOf]; have := unhide HN; omega
                · obtain rfl : n = 4 := by omega
                  have hge : ¬ ((4 : Nat) : Int) < 4 := by omega
                  clear hnl hn
                  go_wp2
                  go_roundw
                  case rel => exact ⟨i + 1, E, I, gC, gE, gI, cC, cE, cI, by have := unhide HL; omega, by go_num, hF, hC, hW⟩
                  case measure => simp [intOf]; have := unhide HL; omega
      · by_cases h1 : i < len5
        · have h1' : (i : Int) < (len5 : Int) := by omega
          by_cases h2 : i < len6
          · have h2' : (i : Int) < (len6 : Int) := by omega
            have h3' : ¬ (i : Int) < 20 := by omega
            clear hlt hi20 h1 h2
            go_wp2_with fail
            go_meet
            exact ⟨E, I, gC, gE, gI, cC, cE, cI, hF, hC, hW⟩
          · have h2' : ¬ (i : Int) < (len6 : Int) := by omega
            clear hlt hi20 h1 h2
            go_wp2_with fail
            go_meet
            exact ⟨E, I, gC, gE, gI, cC, cE, cI, hF, hC, hW⟩
        · have h1' : ¬ (i : Int) < (len5 : Int) := by omega
          clear hlt hi20 h1
          go_wp2_with fail
          go_meet
          exact ⟨E, I, gC, gE, gI, cC, cE, cI, hF, hC, hW⟩
  case rest =>
    clear hF hC hW
    obtain ⟨E, I, gC, gE, gI, cC, cE, cI, hF, hC, hW⟩ := hcut
    obtain ⟨b0, b1, b2, b3, b4, b5, b6, b7, b8, b9, b10⟩ := (unhide hW).eleven
    have cc := hide (refCheck_any s g c E I gC gE gI cC cE cI _ (unhide hW).hold.lists (unhide hF).cells)
    have hok := hide (unhide hF).ok
    have hgr := hide (unhide hW).grown
    unfold Gd.world at cc
    go_wp2_with fail
    refine (unhide cc).mono ?_
    rintro e wz ⟨r, rfl, hr, hg⟩
    obtain rfl : r = true := hr.2 (unhide hok)
    have hfin := hide (grown_trans (unhide hgr) hg)
    clear hg hr cc b0 b1 b2 b3 b4 b5 b6 b7 b8 b9 b10
    go_wp2
    go_ret
    exact ⟨rfl, none_below (unhide hfin)⟩

set_option maxRecDepth 100000 in
theorem lifted (os : Os) (started : os.Started) (H : Type) (enc : TypeId × Value → H) :
    ReturnsInHanded {} Try.checked os 8 .any (Rows.fightBoundsSpec.pre6 enc Try.prog Try.f8 Rows.fightBoundsRow.domain false) (Rows.fightBoundsSpec.post enc Try.prog Try.f8 false true false false) := by
  refine returnsInHanded_of_change (C := Try.checked) own started (by kernel_rfl) Try.func8
    (ChangeSpec.witness6 (enc := enc) (C := Try.checked) false ⟨#[], #[.int .i64 0, .int .i64 0, .slice none 0 0, .slice none 0 0, .int .i64 0, .slice none 0 0, .slice none 0 0], []⟩ 8 (by kernel_rfl) (by kernel_rfl) (by kernel_rfl) (by kernel_rfl)) ?_
  intro W base args ds gs before hval0 hW hcnd _
  have hval : ∀ (j : Nat) t v, Try.f8.params[j]? = some t → args[j]? = some v → Value.okWide Try.prog W .any base t v := hval0
  have hW' := hW
  obtain ⟨p, q, hA0, hV, rfl, hfz, hnd⟩ := hW
  have hA : DataW.TrodAll enc Try.prog W 0 (fun _ => true) true Try.f8.params.toList args.toList ds p := hA0
  rw [Try.params8] at hA hval
  obtain ⟨v0, vs0, d0, ds0, p0, q0, hargs, rfl, rfl, h0, r0⟩ := trodAll_cons hA
  obtain ⟨v1, vs1, d1, ds1, p1, q1, rfl, rfl, rfl, h1, r1⟩ := trodAll_cons r0
  obtain ⟨v2, vs2, d2, ds2, p2, q2, rfl, rfl, rfl, h2, r2⟩ := trodAll_cons r1
  obtain ⟨v3, vs3, d3, ds3, p3, q3, rfl, rfl, rfl, h3, r3⟩ := trodAll_cons r2
  obtain ⟨v4, vs4, d4, ds4, p4, q4, rfl, rfl, rfl, h4, r4⟩ := trodAll_cons r3
  obtain ⟨v5, vs5, d5, ds5, p5, q5, rfl, rfl, rfl, h5, r5⟩ := trodAll_cons r4
  obtain ⟨v6, vs6, d6, ds6, p6, q6, rfl, rfl, rfl, h6, r6⟩ := trodAll_cons r5
  obtain ⟨rfl, rfl, rfl⟩ := trodAll_nil r6
  obtain rfl : args = #[v0, v1, v2, v3, v4, v5, v6] := by cases args; simp_all
  obtain ⟨rfl, rfl⟩ := trodVars_none hV
  obtain ⟨a0, rfl, rfl, rfl, w0⟩ := open_int Try.underlying2 (hval 0 2 v0 rfl rfl) h0
  obtain ⟨a1, rfl, rfl, rfl, w1⟩ := open_int Try.underlying3 (hval 1 3 v1 rfl rfl) h1
  obtain ⟨a2, len2, cap2, rfl⟩ := okWide_slice Try.underlying23 (hval 2 23 v2 rfl rfl)
  have k2 := h2
  have lt2 : ∀ x ∈ p2, x.block < W.heap.size := by obtain ⟨m, hm⟩ := k2; exact DataW.trod_lt m _ _ _ hm
  obtain ⟨z2, w2⟩ : ∃ zs, IsRow .i64 W a2 len2 cap2 zs := by
    obtain ⟨fuel, hf⟩ := h2
    rcases open_ints Try.underlying23 Try.underlying3 (by kernel_rfl) hf with ⟨hcs, _⟩ | ⟨x, l, c, zs, hcs, _, hl, hm, hz, _, hcell, hwz⟩
    · simp [Value.cells] at hcs
      obtain ⟨rfl, rfl, rfl⟩ := hcs
      exact ⟨[], .inl ⟨rfl, rfl, rfl, rfl⟩⟩
    · simp [Value.cells] at hcs
      obtain ⟨rfl, rfl, rfl⟩ := hcs
      exact ⟨zs, .inr ⟨_, rfl, hl, hm, by simpa using hz, hcell, hwz⟩⟩
  obtain ⟨a3, len3, cap3, rfl⟩ := okWide_slice Try.underlying22 (hval 3 22 v3 rfl rfl)
  have k3 := h3
  have lt3 : ∀ x ∈ p3, x.block < W.heap.size := by obtain ⟨m, hm⟩ := k3; exact DataW.trod_lt m _ _ _ hm
  obtain ⟨z3, w3⟩ : ∃ M, ItArg W a3 len3 cap3 M := by
    obtain ⟨fuel, hf⟩ := h3
    exact open_items (by simpa [Value.cells] using hf)
  obtain ⟨a4, rfl, rfl, rfl, w4⟩ := open_int Try.underlying3 (hval 4 3 v4 rfl rfl) h4
  obtain ⟨a5, len5, cap5, rfl⟩ := okWide_slice Try.underlying23 (hval 5 23 v5 rfl rfl)
  have k5 := h5
  have lt5 : ∀ x ∈ p5, x.block < W.heap.size := by obtain ⟨m, hm⟩ := k5; exact DataW.trod_lt m _ _ _ hm
  obtain ⟨z5, w5⟩ : ∃ zs, IsRow .i64 W a5 len5 cap5 zs := by
    obtain ⟨fuel, hf⟩ := h5
    rcases open_ints Try.underlying23 Try.underlying3 (by kernel_rfl) hf with ⟨hcs, _⟩ | ⟨x, l, c, zs, hcs, _, hl, hm, hz, _, hcell, hwz⟩
    · simp [Value.cells] at hcs
      obtain ⟨rfl, rfl, rfl⟩ := hcs
      exact ⟨[], .inl ⟨rfl, rfl, rfl, rfl⟩⟩
    · simp [Value.cells] at hcs
      obtain ⟨rfl, rfl, rfl⟩ := hcs
      exact ⟨zs, .inr ⟨_, rfl, hl, hm, by simpa using hz, hcell, hwz⟩⟩
  obtain ⟨a6, len6, cap6, rfl⟩ := okWide_slice Try.underlying23 (hval 6 23 v6 rfl rfl)
  have k6 := h6
  have lt6 : ∀ x ∈ p6, x.block < W.heap.size := by obtain ⟨m, hm⟩ := k6; exact DataW.trod_lt m _ _ _ hm
  obtain ⟨z6, w6⟩ : ∃ zs, IsRow .i64 W a6 len6 cap6 zs := by
    obtain ⟨fuel, hf⟩ := h6
    rcases open_ints Try.underlying23 Try.underlying3 (by kernel_rfl) hf with ⟨hcs, _⟩ | ⟨x, l, c, zs, hcs, _, hl, hm, hz, _, hcell, hwz⟩
    · simp [Value.cells] at hcs
      obtain ⟨rfl, rfl, rfl⟩ := hcs
      exact ⟨[], .inl ⟨rfl, rfl, rfl, rfl⟩⟩
    · simp [Value.cells] at hcs
      obtain ⟨rfl, rfl, rfl⟩ := hcs
      exact ⟨zs, .inr ⟨_, rfl, hl, hm, by simpa using hz, hcell, hwz⟩⟩
  clear hA0 hval0
  refine (walk a0 a1 a2 len2 cap2 z2 a3 len3 cap3 z3 a4 a5 len5 cap5 z5 a6 len6 cap6 z6 W w0 w1 w2 w3 w4 w5 w6).mono fun e W' ⟨he, bel⟩ => ?_
  subst he
  exact ⟨_, rfl, _, _, _, [], _, [], hW', trodAll_mk1 (shut_bool Try.underlying4 _), (trodAll_cons_mk (shut_int Try.underlying2 w0) (trodAll_cons_mk (shut_int Try.underlying3 w1) (trodAll_cons_mk (Below.trod laidOut (by kernel_rfl) (of_decide_eq_true (by kernel_rfl)) k2 bel lt2) (trodAll_cons_mk (Below.trod laidOut (by kernel_rfl) (of_decide_eq_true (by kernel_rfl)) k3 bel lt3) (trodAll_cons_mk (shut_int Try.underlying3 w4) (trodAll_cons_mk (Below.trod laidOut (by kernel_rfl) (of_decide_eq_true (by kernel_rfl)) k5 bel lt5) (trodAll_cons_mk (Below.trod laidOut (by kernel_rfl) (of_decide_eq_true (by kernel_rfl)) k6 bel lt6) trodAll_mk0))))))), rfl, bel.frame _, fun h => by cases h⟩

theorem over : Rows.fightBoundsRow.holds Try.pinned (OpenSpec.ofChange Rows.fightBoundsSpec) :=
  OpenClaim.holds_of_wide 8 Try.f8 rfl rfl rfl rfl rfl rfl rfl ⟨rfl, rfl, rfl, rfl, rfl⟩ rfl rfl rfl rfl rfl (by kernel_rfl) Try.func8 (by kernel_rfl)
    (of_decide_eq_true (by kernel_rfl)) (by unfold Func.isWrapper; first | (rw [if_pos (by decide +kernel)]; kernel_rfl) | (rw [if_neg (by decide +kernel)]; exact ⟨rfl, rfl⟩))
    (fun os started H enc _ => lifted os started H enc)

theorem proved : Rows.FightBoundsSaid := over
#print axioms proved
end Go.Proofs.Ytgkomdpceilggaa.fightBounds
