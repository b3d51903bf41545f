/-
  Who stands in the shop buys one ware for each price, from the lowest slot on, till the gold, the room or the wares are out: for every seed, gold and number of things in the bag, at this commit; no condition.
-/
import Derived.Test.YthngbjmiblbohaaRows
import Derived.WalkKit
import Derived.ProofKit
import Derived.OpenShut
import Derived.Test.YthngbjmiblbohaaGoodsEnd
import Derived.Below
import Derived.ChangeOld
import Derived.ShutString
namespace Go.Proofs.Ythngbjmiblbohaa.goodsBuys
open Go.ChangeShapes Go.WideShapes Go.ChangeAt Go.RowKit
open Go.ChangeMaps (open_string shut_string)
set_option linter.unusedVariables false

theorem own : ownKnob Try.prog.godebug = none := by kernel_rfl

set_option maxRecDepth 8000 in
set_option maxHeartbeats 12800000 in

theorem walk (a0 : Int) (a1 : Int) (a2 : Int) (w0 : (Lit.int .i64 a0).wf = true) (w1 : (Lit.int .i64 a1).wf = true) (w2 : (Lit.int .i64 a2).wf = true) (w : World) :
    Calls Try.prog 6 #[.int .i64 a0, .int .i64 a1, .int .i64 a2] w fun e w' => e = .returned (.bool true) ∧ Below w.heap.size w w' := by
  clear w0 w1 w2
  obtain ⟨hd, hhd⟩ : ∃ n : Nat, a2 % 5 = (n : Int) := ⟨(a2 % 5).toNat, by omega⟩
  have hd5 : hd ≤ 4 := by omega
  have cS : Hid (∀ wq, Calls Try.prog 11 #[.int .i64 a2, .int .i64 5] wq fun e w' => e = .returned (.int .i64 (hd : Int)) ∧ w' = wq) := fun wq => by
    have h := within7_any a2 5 wq (by omega) (by omega)
    rw [hhd] at h
    exact h
  clear hhd
  go_enter Try.func6, Try.ntmps6
  go_wp2_with fail
  refine (known7_any _).mono ?_
  rintro e wk ⟨rfl, hgk⟩
  have hgk' := hide hgk
  clear hgk
  go_wp2_with fail
  refine (world_bare a0 0 0 0 a1 (by decide) (by decide) _).mono ?_
  rintro e wa ⟨c, kc, s, g, E, hS0, hFl, hshop, -, -, gC, gE, gI, cC, cE, cI, rfl, hcap, l1, l2, l3, n1, n2, n3, hL, hg⟩
  have hS : Gd.Sit c g E (fun _ _ => 0) 0 0 kc := hS0
  have hW := hide (Gd.law_new (s := s) (g := g) (cC := cC) (cI := cI) (unhide hgk') hcap l1 l2 l3 n1 n2 n3 hL hg)
  have hG0 := (hS.fine.gold 0 (by omega)).1
  have hG9 := (hS.fine.gold 0 (by omega)).2
  obtain ⟨G, hG⟩ : ∃ G, g 0 = G := ⟨_, rfl⟩
  rw [hG] at hG0 hG9
  obtain ⟨B, hB⟩ : ∃ B : Nat, (B : Int) = min (min 3 (4 - (hd : Int))) (G / 5) := ⟨(min (min 3 (4 - (hd : Int))) (G / 5)).toNat, by omega⟩
  have hB3 : B ≤ 3 := by omega
  have hB4 : hd + B ≤ 4 := by omega
  have hBG : 5 * (B : Int) ≤ G := by omega
  have hshop' : Hid (0 ≤ Gr.find 384 c 5 → c kc = 5) := fun h => by
    obtain ⟨k, _, e, hk5⟩ := Gr.find_pos h
    have := hshop rfl h
    have hkk : k = kc := by omega
    rw [← hkk]
    exact hk5
  have hmore : Hid (∀ b : Nat, b ≤ B → ((b < 3 ∧ hd + b < 4 ∧ 5 ≤ G - 5 * (b : Int)) ↔ b < B)) := fun b hb => by omega
  have hok : Hid (∀ I gd, Gd.Ok c 40 I → Gd.Ok c 40 (Gd.act I 40 0 ((kc : Int) % 24) ((kc : Int) / 24) true gd 10)) := fun I gd hI => hI.act (by omega) (by omega) (by unfold Gr.inB; exact decide_eq_true ⟨by omega, by omega, by have := hS.kc4; omega, by have := hS.kc4; omega⟩) (by rw [Gr.at_cell c kc hS.kc4]; exact hS.walk) true gd 10
  have cdo : Hid (c kc = 5 → ∀ (gk : Nat → Int) (b : Nat), b ≤ B → gk 0 = G - 5 * (b : Int) → Gd.Fine c gk E (Gd.shelf b 3 hd) → ∃ gn : Nat → Int, gn 0 = G - 5 * ((min (b + 1) B : Nat) : Int) ∧ Gd.Fine c gn E (Gd.shelf (min (b + 1) B) 3 hd) ∧ ∀ (jC jE jI dC dE dI : Nat) (x : World), Gd.Lists x jC jE jI c E (Gd.shelf b 3 hd) → Calls Try.prog 13 #[.agg (Gd.world s jC jE jI dC dE dI gk), .int .i64 0, .int .i64 10] x (Gd.Worlds x s gn c E (Gd.shelf (min (b + 1) B) 3 hd))) := fun hc5 gk b hb hgk hf => by
    have hdo := fun (jC jE jI dC dE dI : Nat) (x : World) hx => do_sit s gk c E (Gd.shelf b 3 hd) jC jE jI dC dE dI 0 kc 0 10 { hS with fine := hf } x hx
    have he : Gd.entsOf E (Gd.shelf b 3 hd) 0 0 10 = E := if_neg (by omega)
    have ho := unhide hok _ (gk 0) hf.ok
    have hz : (0 : Int).toNat = 0 := rfl
    rw [he, hz] at hdo
    have hd5t : decide (c kc = 5) = true := decide_eq_true hc5
    rw [hd5t] at hdo
    have hmb := unhide hmore b hb
    by_cases hlt : b < B
    · obtain ⟨h1, h2, h3⟩ := hmb.2 hlt
      obtain ⟨e1, e2⟩ := Gd.buy_yes (x := (kc : Int) % 24) (y := (kc : Int) / 24) (gd := gk 0) h1 h2 (by rw [hgk]; exact h3)
      rw [e1] at ho
      rw [e1, e2] at hdo
      rw [show min (b + 1) B = b + 1 by omega]
      exact ⟨_, by rw [show Gd.give gk 0 (gk 0 - 5) 0 = gk 0 - 5 from if_pos rfl, hgk]; omega, Gd.fine_give hf (by omega) (by omega) ho, hdo⟩
    · obtain ⟨e1, e2⟩ := Gd.buy_no (b := b) (h := hd) (x := (kc : Int) % 24) (y := (kc : Int) / 24) (gd := gk 0) (by omega) (by omega) (fun h => hlt (hmb.1 (by rw [hgk] at h; exact h)))
      rw [e1, e2, Gd.give_same] at hdo
      rw [show min (b + 1) B = b by omega]
      exact ⟨gk, hgk, hf, hdo⟩
  have hfine0 : Hid (∀ I, Gd.Ok c 40 I → Gd.Fine c g E I) := fun I hI => { hS.fine with ok := hI }
  have hcc : Hid (∀ i, 0 ≤ c i ∧ c i ≤ 255) := hS.fine.cells
  have cF := hide (fun (x : World) (hx : Gd.Lists x gC gE gI c E (fun _ _ => 0)) => refFind_any x.heap.size (some ⟨gC, 0, none⟩) 384 cC c 5 x hx.vec hS.fine.cells)
  obtain ⟨f, hf⟩ : ∃ f, Gr.find 384 c 5 = f := ⟨_, rfl⟩
  rw [hf] at cF hshop'
  have hG' := hide hG
  have hB' := hide hB
  clear hcap l1 l2 l3 n1 n2 n3 hL hg hgk' hS hS0 hFl hshop hf hG hB hok hmore
  unfold Gd.world at hW ⊢
  go_upto_region 4 with fail
  obtain ⟨T, hT⟩ : ∃ T, wa.heap.size = T := ⟨_, rfl⟩
  rw [hT] at hW ⊢
  generalize wa.alloc (.cells #[.int .i64 (s 0), .int .i64 (s 1), .int .i64 (s 2), .int .i64 (s 3), .slice (some ⟨gC, 0, none⟩) 384 cC, .slice (some ⟨gE, 0, none⟩) 32 cE, .slice (some ⟨gI, 0, none⟩) 40 cI, .int .i64 (g 0), .int .i64 (g 1), .int .i64 (g 2), .int .i64 (g 3)] 29) = wb at hW ⊢
  clear hT
  have q4 := (unhide hW).eleven.2.2.2.2.1
  go_wp2_with fail
  refine (unhide cF _ (unhide hW).hold.lists).mono ?_
  rintro e wy ⟨rfl, hy⟩
  subst wy
  clear cF q4
  by_cases hneg : f < 0
  · have hfin := hide (unhide hW).grown
    go_wp2
    go_ret
    exact ⟨rfl, none_below (unhide hfin)⟩
  · have hc5 := hide (unhide hshop' (by omega))
    have cdo2 := hide (unhide cdo (unhide hc5))
    clear cdo hshop' hc5
    go_wp2_with fail
    refine (unhide cS _).mono ?_
    rintro e wy ⟨rfl, hy⟩
    subst wy
    clear cS
    go_wp2_with fail
    go_loopw [8] (fun vi wr => ∃ k : Nat, k ≤ 3 ∧ vi = .int .i64 (k : Int) ∧ Hid (Gd.Law w wr T gC gE gI cC cE cI s g c E (Gd.shelf 0 k 0)) ∧ Hid (Gd.Ok c 40 (Gd.shelf 0 k 0))) (fun vi _ => 10 - (intOf vi).toNat)
    case atStart => exact ⟨0, by omega, rfl, (unhide hW).same Gd.shelf_none, by show Gd.Ok c 40 _; rw [← Gd.shelf_none]; exact Gd.ok_none c⟩
    case round =>
      clear hW
      obtain ⟨k, hk, rfl, hWr, hOk⟩ := hrel
      by_cases hlt : k < 3
      · have hlt' : (k : Int) < 3 := by omega
        have HL := hide hlt
        have q6 := (unhide hWr).eleven.2.2.2.2.2.2.1
        have fI := (unhide hWr).hold.lists.items.free
        obtain ⟨u0, u1, u2, u3⟩ := (unhide hWr).hold.lists.its.row (k := k) (by omega)
        have hput : Hid (Gd.Law w _ T gC gE gI cC cE cI s g c E (Gd.shelf 0 (k + 1) 0)) := ((unhide hWr).put k 1 4 (k : Int) 0).same (Gd.shelf_more hlt)
        have hok2 : Hid (Gd.Ok c 40 (Gd.shelf 0 (k + 1) 0)) := by
          show Gd.Ok c 40 _
          rw [← Gd.shelf_more hlt]
          refine (unhide hOk).put (.inr ⟨Gd.Fit.placed ⟨by omega, by omega, .inr (.inr (.inr ⟨rfl, by omega, by omega, rfl⟩))⟩ (by omega), fun j _ hj hsh => ?_⟩)
          by_cases h0 : j < k
          · rw [Gd.shelf_ware (by omega) h0] at hsh
            have : (j : Int) = (k : Int) := hsh.2.1
            omega
          · rw [Gd.shelf_no (by omega) h0 (by omega)] at hsh
            have : (0 : Int) = 4 := hsh.1
            omega
        clear hlt hk
        go_wp2
        go_roundw
        case rel => exact ⟨k + 1, by have := unhide HL; omega, by go_num, hput, hok2⟩
        case measure => simp [intOf]; have := unhide HL; omega
      · obtain rfl : k = 3 := by omega
        have hge : ¬ ((3 : Nat) : Int) < 3 := by omega
        clear hlt hk
        go_wp2_with fail
        go_loopw [9] (fun vi wr => ∃ k : Nat, k ≤ hd ∧ vi = .int .i64 (k : Int) ∧ Hid (Gd.Law w wr T gC gE gI cC cE cI s g c E (Gd.shelf 0 3 k)) ∧ Hid (Gd.Ok c 40 (Gd.shelf 0 3 k))) (fun vi _ => 10 - (intOf vi).toNat)
        case atStart => exact ⟨0, by omega, rfl, hWr, hOk⟩
        case round =>
          clear hWr hOk
          obtain ⟨k, hk, rfl, hWr, hOk⟩ := hrel
          by_cases hlt : k < hd
          · have hlt' : (k : Int) < (hd : Int) := by omega
            have HL := hide hlt
            obtain ⟨m, hm⟩ : ∃ m : Nat, m = 10 + k := ⟨_, rfl⟩
            have hmi : 10 + (k : Int) = (m : Int) := by omega
            have hm40 : (m : Int) < 40 := by omega
            have q6 := (unhide hWr).eleven.2.2.2.2.2.2.1
            have fI := (unhide hWr).hold.lists.items.free
            obtain ⟨u0, u1, u2, u3⟩ := (unhide hWr).hold.lists.its.row (k := m) (by omega)
            have hput : Hid (Gd.Law w _ T gC gE gI cC cE cI s g c E (Gd.shelf 0 3 (k + 1))) := ((unhide hWr).put m 2 2 0 (k : Int)).same (by rw [hm]; exact Gd.shelf_arm (by omega))
            have hok2 : Hid (Gd.Ok c 40 (Gd.shelf 0 3 (k + 1))) := by
              show Gd.Ok c 40 _
              rw [← Gd.shelf_arm (by omega)]
              refine (unhide hOk).put (.inr ⟨Gd.Fit.placed ⟨by omega, by omega, .inr (.inl ⟨rfl, by omega, by omega, by omega, by omega⟩)⟩ (by omega), fun j _ hj hsh => ?_⟩)
              rcases Gd.shelf_in (b := 0) (h := k) (j := j) (p := 2) (x := 0) (q := (k : Int)) (by omega) (by omega) hsh with h1 | h1 | h1 <;> omega
            clear hlt hk hm
            go_wp2
            go_roundw
            case rel => exact ⟨k + 1, by have := unhide HL; omega, by go_num, hput, hok2⟩
            case measure => simp [intOf]; have := unhide HL; omega
          · obtain rfl : k = hd := by omega
            have hge : ¬ (k : Int) < (k : Int) := by omega
            have q7 := (unhide hWr).eleven.2.2.2.2.2.2.2.1
            rw [unhide hG'] at q7
            clear hlt hk
            go_wp2_with fail
            go_loopw [12] (fun vi wr => ∃ (n : Nat) (gk : Nat → Int) (gC gE gI cC cE cI : Nat), n ≤ 6 ∧ vi = .int .i64 (n : Int) ∧ Hid (gk 0 = G - 5 * ((min n B : Nat) : Int)) ∧ Hid (Gd.Fine c gk E (Gd.shelf (min n B) 3 k)) ∧ Hid (Gd.Law w wr T gC gE gI cC cE cI s gk c E (Gd.shelf (min n B) 3 k))) (fun vi _ => 10 - (intOf vi).toNat)
            case atStart => exact ⟨0, g, gC, gE, gI, cC, cE, cI, by omega, rfl, by show g 0 = _; rw [unhide hG', Nat.zero_min]; omega, by show Gd.Fine _ _ _ _; rw [Nat.zero_min]; exact unhide hfine0 _ (unhide hOk), by show Gd.Law _ _ _ _ _ _ _ _ _ _ _ _ _ _; rw [Nat.zero_min]; exact unhide hWr⟩
            case round =>
              clear hWr hOk q7 hfine0 hge
              obtain ⟨n, gk, gC, gE, gI, cC, cE, cI, hn, rfl, hgk, hFi, hW⟩ := hrel
              by_cases hlt : n < 6
              · have hlt' : (n : Int) < 6 := by omega
                have HL := hide hlt
                obtain ⟨gn, hg0, hFn, cd⟩ := unhide cdo2 gk (min n B) (by omega) (unhide hgk) (unhide hFi)
                have hmm : min (min n B + 1) B = min (n + 1) B := by omega
                rw [hmm] at hg0 hFn cd
                have hg0' := hide hg0
                have hFn' := hide hFn
                have cd' := hide (cd gC gE gI cC cE cI)
                obtain ⟨b0, b1, b2, b3, b4, b5, b6, b7, b8, b9, b10⟩ := (unhide hW).eleven
                clear hlt hn hmm hg0 hFn cd hgk hFi
                unfold Gd.world at cd'
                go_wp2_with fail
                refine (unhide cd' _ (unhide hW).hold.lists).mono ?_
                rintro e wv ⟨jC, jE, jI, dC, dE, dI, rfl, hcap, l1, l2, l3, n1, n2, n3, hL, hg⟩
                have hV : Hid (Gd.Law w (((((((((((wv.setCell ⟨T, 0, none⟩ (.int .i64 (s 0))).setCell ⟨T, 1, none⟩ (.int .i64 (s 1))).setCell ⟨T, 2, none⟩ (.int .i64 (s 2))).setCell ⟨T, 3, none⟩ (.int .i64 (s 3))).setCell ⟨T, 4, none⟩ (.slice (some ⟨jC, 0, none⟩) 384 dC)).setCell ⟨T, 5, none⟩ (.slice (some ⟨jE, 0, none⟩) 32 dE)).setCell ⟨T, 6, none⟩ (.slice (some ⟨jI, 0, none⟩) 40 dI)).setCell ⟨T, 7, none⟩ (.int .i64 (gn 0))).setCell ⟨T, 8, none⟩ (.int .i64 (gn 1))).setCell ⟨T, 9, none⟩ (.int .i64 (gn 2))).setCell ⟨T, 10, none⟩ (.int .i64 (gn 3))) T jC jE jI dC dE dI s gn c E (Gd.shelf (min (n + 1) B) 3 k)) := (unhide hW).over (s' := s) (g' := gn) (dC := dC) (dI := dI) hcap l1 l2 l3 n1 n2 n3 hL hg
                obtain ⟨y0, y1, y2, y3, y4, y5, y6, y7, y8, y9, y10⟩ := ((unhide hW).on hg).eleven
                have fT := ((unhide hW).on hg).hold.box.free
                clear hcap l1 l2 l3 n1 n2 n3 hL hg cd' hW b0 b1 b2 b3 b4 b5 b6 b7 b8 b9 b10
                unfold Gd.world
                go_wp2
                go_roundw
                case rel => exact ⟨n + 1, gn, jC, jE, jI, dC, dE, dI, by have := unhide HL; omega, by go_num, hg0', hFn', hV⟩
                case measure => simp [intOf]; have := unhide HL; omega
              · obtain rfl : n = 6 := by omega
                have hge : ¬ ((6 : Nat) : Int) < 6 := by omega
                have h6 : min 6 B = B := by omega
                rw [h6] at hgk hFi hW
                clear hlt hn h6 cdo2
                go_wp2_with fail
                go_loopw [11, 13] (fun v11 vi wr => ∃ m : Nat, m ≤ 3 ∧ vi = .int .i64 (m : Int) ∧ v11 = .int .i64 ((min m B : Nat) : Int) ∧ Hid (Gd.Law w wr T gC gE gI cC cE cI s gk c E (Gd.shelf B 3 k))) (fun _ vi _ => 10 - (intOf vi).toNat)
                case atStart => exact ⟨0, by omega, rfl, by rw [Nat.zero_min]; rfl, hW⟩
                case round =>
                  clear hW hge
                  obtain ⟨m, hm, rfl, rfl, hW⟩ := hrel
                  by_cases hlt : m < 3
                  · have hlt' : (m : Int) < 3 := by omega
                    have HL := hide hlt
                    have q6 := (unhide hW).eleven.2.2.2.2.2.2.1
                    have hrow := (unhide hW).hold.lists.its.row (k := m) (by omega)
                    by_cases hmB : m < B
                    · rw [Gd.shelf_bag hmB] at hrow
                      have u1 : wr.cell? ⟨gI, m * 4 + 1, none⟩ = some (.int .i64 2) := hrow.2.1
                      have u3 : wr.cell? ⟨gI, m * 4 + 3, none⟩ = some (.int .i64 ((k : Int) + (m : Int))) := hrow.2.2.2
                      have e1 : min m B = m := by omega
                      have e2 : Hid (min (m + 1) B = m + 1) := by
                        show min (m + 1) B = m + 1
                        omega
                      rw [e1]
                      have hk4 : (k : Int) ≤ 4 := by omega
                      clear hlt hm hrow hmB e1
                      go_wp2
                      go_roundw
                      case rel => exact ⟨m + 1, by have := unhide HL; omega, by go_num, by rw [unhide e2]; go_num, hW⟩
                      case measure => simp [intOf]; have := unhide HL; omega
                    · rw [Gd.shelf_ware hmB hlt] at hrow
                      have u1 : wr.cell? ⟨gI, m * 4 + 1, none⟩ = some (.int .i64 4) := hrow.2.1
                      have e2 : Hid (min (m + 1) B = min m B) := by
                        show min (m + 1) B = min m B
                        omega
                      obtain ⟨q, hq⟩ : ∃ q : Nat, min m B = q := ⟨_, rfl⟩
                      rw [hq] at e2 ⊢
                      clear hlt hm hrow hmB hq
                      go_wp2
                      go_roundw
                      case rel => exact ⟨m + 1, by have := unhide HL; omega, by go_num, by rw [unhide e2], hW⟩
                      case measure => simp [intOf]; have := unhide HL; omega
                  · obtain rfl : m = 3 := by omega
                    have hge : ¬ ((3 : Nat) : Int) < 3 := by omega
                    rw [show min 3 B = B by omega]
                    obtain ⟨b0, b1, b2, b3, b4, b5, b6, b7, b8, b9, b10⟩ := (unhide hW).eleven
                    have b7' : wr.cell? ⟨T, 7, none⟩ = some (.int .i64 (G - 5 * (B : Int))) := by rw [b7, unhide hgk]
                    have cck : Hid (∀ V, V = G - 5 * (B : Int) → Calls Try.prog 16 #[.agg #[.int .i64 (s 0), .int .i64 (s 1), .int .i64 (s 2), .int .i64 (s 3), .slice (some ⟨gC, 0, none⟩) 384 cC, .slice (some ⟨gE, 0, none⟩) 32 cE, .slice (some ⟨gI, 0, none⟩) 40 cI, .int .i64 V, .int .i64 (gk 1), .int .i64 (gk 2), .int .i64 (gk 3)]] wr (Tells7 wr (Gd.Ok c 40 (Gd.shelf B 3 k)))) := fun V hV => by
                      have h := check_any s gk c E (Gd.shelf B 3 k) gC gE gI cC cE cI wr (unhide hW).hold.lists (unhide hcc)
                      unfold Gd.world at h
                      rw [unhide hgk, ← hV] at h
                      exact h
                    have hOk := hide (unhide hFi).ok
                    have hBe : min (min 3 (4 - (k : Int))) (G / 5) = (B : Int) := (unhide hB').symm
                    have hk4 : (k : Int) ≤ 4 := by omega
                    have hBi : (B : Int) ≤ 3 := by omega
                    clear hlt hm b7 hB' hgk hFi
                    go_wp2_with fail
                    all_goals
                      refine (unhide cck _ ?hv).mono ?_
                      case hv => omega
                      rintro e wz ⟨r, rfl, hr, hg⟩
                      obtain rfl : r = true := hr.2 (unhide hOk)
                      have hfin := hide (grown_trans (unhide hW).grown hg)
                      clear hr hg cck
                      go_wp2
                      go_ret
                      exact ⟨rfl, none_below (unhide hfin)⟩

set_option maxRecDepth 100000 in
theorem lifted (os : Os) (started : os.Started) (H : Type) (enc : TypeId × Value → H) :
    ReturnsInHanded {} Try.checked os 6 .any (Rows.goodsBuysSpec.pre6 enc Try.prog Try.f6 Rows.goodsBuysRow.domain false) (Rows.goodsBuysSpec.post enc Try.prog Try.f6 false true false false) := by
  refine returnsInHanded_of_change (C := Try.checked) own started (by kernel_rfl) Try.func6
    (ChangeSpec.witness6 (enc := enc) (C := Try.checked) false ⟨#[], #[.int .i64 0, .int .i64 0, .int .i64 0], []⟩ 8 (by kernel_rfl) (by kernel_rfl) (by kernel_rfl) (by kernel_rfl)) ?_
  intro W base args ds gs before hval0 hW hcnd _
  have hval : ∀ (j : Nat) t v, Try.f6.params[j]? = some t → args[j]? = some v → Value.okWide Try.prog W .any base t v := hval0
  have hW' := hW
  obtain ⟨p, q, hA0, hV, rfl, hfz, hnd⟩ := hW
  have hA : DataW.TrodAll enc Try.prog W 0 (fun _ => true) true Try.f6.params.toList args.toList ds p := hA0
  rw [Try.params6] at hA hval
  obtain ⟨v0, vs0, d0, ds0, p0, q0, hargs, rfl, rfl, h0, r0⟩ := trodAll_cons hA
  obtain ⟨v1, vs1, d1, ds1, p1, q1, rfl, rfl, rfl, h1, r1⟩ := trodAll_cons r0
  obtain ⟨v2, vs2, d2, ds2, p2, q2, rfl, rfl, rfl, h2, r2⟩ := trodAll_cons r1
  obtain ⟨rfl, rfl, rfl⟩ := trodAll_nil r2
  obtain rfl : args = #[v0, v1, v2] := by cases args; simp_all
  obtain ⟨rfl, rfl⟩ := trodVars_none hV
  obtain ⟨a0, rfl, rfl, rfl, w0⟩ := open_int Try.underlying2 (hval 0 2 v0 rfl rfl) h0
  obtain ⟨a1, rfl, rfl, rfl, w1⟩ := open_int Try.underlying3 (hval 1 3 v1 rfl rfl) h1
  obtain ⟨a2, rfl, rfl, rfl, w2⟩ := open_int Try.underlying3 (hval 2 3 v2 rfl rfl) h2
  clear hA0 hval0
  refine (walk a0 a1 a2 w0 w1 w2 W).mono fun e W' ⟨he, hg⟩ => ?_
  subst he
  exact ⟨_, rfl, _, _, _, [], _, [], hW', trodAll_mk1 (shut_bool Try.underlying4 _), (trodAll_cons_mk (shut_int Try.underlying2 w0) (trodAll_cons_mk (shut_int Try.underlying3 w1) (trodAll_cons_mk (shut_int Try.underlying3 w2) trodAll_mk0))), rfl, hg.frame _, fun h => by cases h⟩

theorem over : Rows.goodsBuysRow.holds Try.pinned (OpenSpec.ofChange Rows.goodsBuysSpec) :=
  OpenClaim.holds_of_wide 6 Try.f6 rfl rfl rfl rfl rfl rfl rfl ⟨rfl, rfl, rfl, rfl, rfl⟩ rfl rfl rfl rfl rfl (by kernel_rfl) Try.func6 (by kernel_rfl)
    (of_decide_eq_true (by kernel_rfl)) (by unfold Func.isWrapper; first | (rw [if_pos (by decide +kernel)]; kernel_rfl) | (rw [if_neg (by decide +kernel)]; exact ⟨rfl, rfl⟩))
    (fun os started H enc _ => lifted os started H enc)

theorem proved : Rows.GoodsBuysSaid :=
  over
#print axioms proved
end Go.Proofs.Ythngbjmiblbohaa.goodsBuys
