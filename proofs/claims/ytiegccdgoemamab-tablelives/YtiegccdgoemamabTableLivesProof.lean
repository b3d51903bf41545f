/-
  For any seat and any numbers the law TableLives answers true: a seat is nobody's till it is taken, a player's behind that frame, a robot's behind the one at which it is retired, taken again a robot's at that frame; no condition.
-/
import Derived.Test.YtiegccdgoemamabRows
import Derived.WalkKit
import Derived.ProofKit
import Derived.OpenShut
import Derived.Test.YtiegccdgoemamabTableLife
import Derived.ShutString
import Derived.ChangeOld
import Derived.Below
namespace Go.Proofs.Ytiegccdgoemamab.tableLives
open Go.ChangeShapes Go.WideShapes Go.ChangeAt Go.RowKit
open Go.ChangeMaps (open_string shut_string)
set_option linter.unusedVariables false

theorem own : ownKnob Try.prog.godebug = none := by kernel_rfl
theorem laidOut : laidOutB Try.prog = true := by kernel_rfl

/-- WHAT THE WALK IS TOLD OF A SLICE OF INTEGERS THAT CAME IN: it is nil; or it leads to a row of 'cap' cells, the numbers 'zs' (the first 'len' are its elements, the rest its spare room), each fitting its kind. -/
def IsRow (k : IntKind) (w : World) (a : Option Addr) (len cap : Nat) (zs : List Int) : Prop :=
  (a = none ∧ len = 0 ∧ cap = 0 ∧ zs = []) ∨
  ∃ x, a = some x ∧ len ≤ cap ∧ cap ≤ maxLen ∧ zs.length = cap ∧ (∀ i, i < zs.length → w.cell? (x.add i) = some (.int k (zs.getD i 0))) ∧ ∀ n ∈ zs, (Lit.int k n).wf = true

theorem IsRow.vec {k : IntKind} {w : World} {a : Option Addr} {len cap : Nat} {zs : List Int} (h : IsRow k w a len cap zs) : Vec w.heap.size w a len (fun i => .int k (zs[i]?.getD 0)) := by
  rcases h with ⟨rfl, rfl, rfl, rfl⟩ | ⟨x, rfl, hl, hm, hz, hcell, _⟩
  · exact ⟨Nat.zero_le _, .inl rfl⟩
  · refine ⟨Nat.le_trans hl hm, ?_⟩
    by_cases h0 : len = 0
    · exact .inl h0
    · right
      obtain ⟨b, off, spot⟩ := x
      have hc0 := hcell 0 (by omega)
      have hspot : spot = none := by simpa [Addr.add] using World.cell?_spot hc0
      subst hspot
      refine ⟨b, off, rfl, ?_, fun i hi => ?_⟩
      · have h := Go.block_lt_of_cell hc0
        simpa [Addr.add] using h
      · have h := hcell i (by omega)
        by_cases hi0 : i = 0
        · subst hi0
          simpa [Addr.add] using h
        · simpa [Addr.add, hi0] using h

theorem IsRow.long {w : World} {a : Option Addr} {len cap : Nat} {zs : List Int} (h : IsRow .i64 w a len cap zs) (i : Nat) : -9223372036854775808 ≤ zs[i]?.getD 0 ∧ zs[i]?.getD 0 ≤ 9223372036854775807 := by
  rcases h with ⟨_, _, _, rfl⟩ | ⟨_, _, _, _, _, _, hw⟩
  · simp
  · by_cases hi : i < zs.length
    · have h := hw zs[i] (List.getElem_mem hi)
      simp only [Lit.wf, Bool.and_eq_true, decide_eq_true_eq, show IntKind.i64.min = -9223372036854775808 from by decide, show IntKind.i64.max = 9223372036854775807 from by decide] at h
      rw [List.getElem?_eq_getElem hi]
      exact h
    · rw [List.getElem?_eq_none (by omega)]
      exact ⟨by decide, by decide⟩

theorem tdiv_small (z k : Int) (hk : 2 ≤ k) (h0 : -9223372036854775808 ≤ z) (h1 : z ≤ 9223372036854775807) : -9223372036854775808 ≤ z.tdiv k ∧ z.tdiv k ≤ 9223372036854775807 := by
  rcases Int.le_total 0 z with h | h
  · rw [Int.tdiv_eq_ediv_of_nonneg h]
    have := Int.ediv_nonneg h (b := k) (by omega)
    have := Int.ediv_le_self (b := k) h
    omega
  · have e : z.tdiv k = -((-z).tdiv k) := by rw [Int.neg_tdiv, Int.neg_neg]
    rw [e, Int.tdiv_eq_ediv_of_nonneg (by omega)]
    have := Int.ediv_nonneg (a := -z) (by omega) (b := k) (by omega)
    have := Int.ediv_le_self (a := -z) (b := k) (by omega)
    omega

set_option maxRecDepth 8000 in
set_option maxHeartbeats 25600000 in

theorem walk (a0 : Int) (a1 : Option Addr) (len1 cap1 : Nat) (z1 : List Int) (w : World) (w0 : (Lit.int .i64 a0).wf = true) (w1 : IsRow .i64 w a1 len1 cap1 z1) :
    Calls Try.prog 3 #[.int .i64 a0, .slice a1 len1 cap1] w fun e w' => e = .returned (.bool true) ∧ Below w.heap.size w w' := by
  have hv := hide w1.vec
  have hz := hide w1.long
  have hm : len1 ≤ 9223372036854775807 := w1.vec.1
  clear w0 w1
  have hS0 := Int.emod_nonneg a0 (b := 3) (by decide)
  have hS1 := Int.emod_lt_of_pos a0 (b := 3) (by decide)
  have cw := hide fun x => within16_any a0 3 x (by decide) (by decide)
  obtain ⟨m, hmm⟩ : ∃ m, a0 % 3 = m := ⟨_, rfl⟩
  rw [hmm] at cw hS0 hS1
  clear hmm
  obtain ⟨S, hS⟩ : ∃ S, 1 + m = S := ⟨_, rfl⟩
  have HS := hide (show 1 ≤ S ∧ S ≤ 3 by omega)
  go_enter Try.func3, Try.ntmps3
  go_wp2_with fail
  refine (known16_any _).mono ?_
  rintro e wk ⟨rfl, hgk⟩
  have HK := hide hgk
  clear hgk
  go_wp2_with fail
  refine (unhide cw _).mono ?_
  rintro e wk' ⟨rfl, rfl⟩
  clear cw
  go_wp2_with fail
  clear hS hS0 hS1
  go_loopw [5, 6, 7] (fun v5 v6 v7 wr => ∃ (i c : Nat) (a : Option Addr) (at_ : Int) (E : Nat → Nat → Int), i ≤ len1 ∧ i ≤ 8 ∧ v7 = .int .i64 (i : Int) ∧ v6 = .int .i64 at_ ∧ v5 = .slice a i c ∧ at_ ≤ 40 * (i : Int) ∧ Hid (w.grownBy wr none ∧ Tb.Tab wr a i c E ∧ Tb.Life E i S at_)) (fun _ _ v7 _ => 10 - (intOf v7).toNat)
  case atStart => exact ⟨0, 0, none, 0, Tb.zero, by omega, by omega, rfl, rfl, rfl, by omega, unhide HK, Tb.noTab _ _, Tb.Life.start S⟩
  case round =>
    clear HK
    obtain ⟨i, c, a, at_, E, hi1, hi8, rfl, rfl, rfl, hat, hrel⟩ := hrel
    by_cases hlt : i < len1 ∧ i < 8
    · obtain ⟨hl1, hl2⟩ := hlt
      obtain ⟨b, off, rfl, hb, hc⟩ := (unhide hv).at hl1
      have hl1' : (i : Int) < (len1 : Int) := by omega
      have hl2' : (i : Int) < 8 := by omega
      have HH := hide fun y (hg : w.grownBy y none) => (grown_cell hg b (off + i) hb (by simp)).trans hc
      have hc' := unhide HH wr (unhide hrel).1
      have hzb := unhide hz i
      obtain ⟨z, hzz⟩ : ∃ z, z1[i]?.getD 0 = z := ⟨_, rfl⟩
      rw [hzz] at hc' hzb HH
      have HI := hide (And.intro hl1 hl2)
      have hat0 := (unhide hrel).2.2.pos
      clear hc hb hzz hl1 hl2 hi1 hi8
      have r0 := Int.emod_nonneg z (b := 20) (by decide)
      have r1 := Int.emod_lt_of_pos z (b := 20) (by decide)
      obtain ⟨q, hq⟩ : ∃ q, z.tdiv 20 = q := ⟨_, rfl⟩
      have hwq : IntKind.i64.wrap (z.tdiv 20) = q := by
        rw [hq, IntKind.wrap_i64]
        have : -9223372036854775808 ≤ q ∧ q ≤ 9223372036854775807 := by
          rw [← hq]
          exact tdiv_small z 20 (by decide) hzb.1 hzb.2
        omega
      have q0 := Int.emod_nonneg q (b := 20) (by decide)
      have q1 := Int.emod_lt_of_pos q (b := 20) (by decide)
      obtain ⟨p, hp⟩ : ∃ p, z.tdiv 400 = p := ⟨_, rfl⟩
      have hwp : IntKind.i64.wrap (z.tdiv 400) = p := by
        rw [hp, IntKind.wrap_i64]
        have : -9223372036854775808 ≤ p ∧ p ≤ 9223372036854775807 := by
          rw [← hp]
          exact tdiv_small z 400 (by decide) hzb.1 hzb.2
        omega
      have c1 := hide fun x => within16_any z 20 x (by decide) (by decide)
      have c2 := hide fun x => within16_any q 20 x (by decide) (by decide)
      obtain ⟨f0, hf0⟩ : ∃ f0, z % 20 = f0 := ⟨_, rfl⟩
      obtain ⟨u0, hu0⟩ : ∃ u0, q % 20 = u0 := ⟨_, rfl⟩
      rw [hf0] at c1 r0 r1
      rw [hu0] at c2 q0 q1
      have p0 := Int.emod_nonneg p (b := u0 + 2) (by omega)
      have p1 := Int.emod_lt_of_pos p (b := u0 + 2) (by omega)
      have c3 := hide fun x => within16_any p (u0 + 2) x (by omega) (by omega)
      obtain ⟨l0, hl0⟩ : ∃ l0, p % (u0 + 2) = l0 := ⟨_, rfl⟩
      rw [hl0] at c3 p0 p1
      clear hf0 hu0 hl0 hq hp hzb
      obtain ⟨f, hf⟩ : ∃ f, at_ + 1 + f0 = f := ⟨_, rfl⟩
      obtain ⟨u, hu⟩ : ∃ u, f + 1 + u0 = u := ⟨_, rfl⟩
      obtain ⟨l, hl⟩ : ∃ l, f + l0 = l := ⟨_, rfl⟩
      have hF := hide (show at_ < f ∧ f ≤ at_ + 20 ∧ f < u ∧ u ≤ at_ + 40 ∧ f ≤ l ∧ l ≤ u ∧ u - f + 1 = u0 + 2 ∧ f ≤ 1000 ∧ at_ ≤ 1000 by omega)
      have co := hide (show ∀ x, wr.grownBy x none → Calls Try.prog 8 #[.slice a i c, .int .i64 at_] x (Says x (.int .i64 1)) from fun x hg => by
        have h := tbOpens_any a i c E at_ x ((unhide hrel).2.1.on hg).2.2.1 (Nat.le_trans (unhide hrel).2.1.1 (unhide hrel).2.1.2.1)
        rwa [(unhide hrel).2.2.open1 (unhide hF).2.2.2.2.2.2.2.2] at h)
      have cs := hide fun x (hg : wr.grownBy x none) => tbAdd_ok a i c E 2 0 S f 0 x ((unhide hrel).2.1.on hg) (by have := unhide HI; omega) (by have := unhide hF; omega) ((unhide hrel).2.2.seat (by have := unhide hF; omega) (by have := unhide HS; omega) (unhide HS).2 (unhide hF).1) (i + 1) (Tb.put E i (Tb.span S f)) (if_pos rfl)
      have cr := hide fun a' c' x (h : Tb.Tab x a' (i + 1) c' (Tb.put E i (Tb.span S f))) => tbAdd_ok a' (i + 1) c' (Tb.put E i (Tb.span S f)) 3 0 S u l x h (by have := unhide HI; omega) (by have := unhide hF; omega) ((unhide hrel).2.2.ret (unhide HS).1 (unhide HS).2 (unhide hF).1 (by have := unhide hF; omega) (by have := unhide hF; omega) (by have := unhide hF; omega) (by have := unhide hF; omega)) (i + 1) (Tb.grow E i S f u l) ((unhide hrel).2.2.next (unhide hF).1 (by have := unhide hF; omega))
      have HL := hide ((unhide hrel).2.2.grow (l := l) (unhide hF).1 (unhide hF).2.2.1)
      have HST := hide fun k (hk : at_ < k) => (unhide hrel).2.2.stand (l := l) (unhide hF).1 (by have := unhide hF; omega) (unhide hF).2.2.1 hk
      obtain ⟨D, hD⟩ : ∃ D, Tb.put E i (Tb.span S f) = D := ⟨_, rfl⟩
      obtain ⟨G, hG⟩ : ∃ G, Tb.grow E i S f u l = G := ⟨_, rfl⟩
      rw [hD] at cs cr
      rw [hG] at cr HL HST
      clear hD hG
      have hu2 : u - f + 1 = u0 + 2 := (unhide hF).2.2.2.2.2.2.1
      go_wp2_with fail
      refine (unhide c1 _).mono ?_
      rintro e x ⟨rfl, rfl⟩
      clear c1
      go_wp2_with fail
      refine (unhide c2 _).mono ?_
      rintro e x ⟨rfl, rfl⟩
      clear c2
      go_wp2_with fail
      refine (unhide c3 _).mono ?_
      rintro e x ⟨rfl, rfl⟩
      clear c3
      go_wp2_with fail
      refine (unhide co _ (World.grownBy.refl _ _)).mono ?_
      rintro e y ⟨rfl, hy⟩
      have HY := hide hy
      clear hy co hc'
      go_wp2_with fail
      refine (unhide cs _ (unhide HY)).mono ?_
      rintro e y1 ⟨a1', c1', rfl, ht1, hy1⟩
      have HY1 := hide (grown_trans (unhide HY) hy1)
      have HT1 := hide ht1
      clear ht1 hy1 HY cs
      go_wp2_with fail
      refine (unhide cr _ _ _ (unhide HT1)).mono ?_
      rintro e y2 ⟨a2, c2, rfl, ht2, hy2⟩
      have HW := hide (grown_trans (unhide hrel).1 (grown_trans (unhide HY1) hy2))
      have HT := hide ht2
      clear ht2 hy2 HY1 HT1 cr
      have hi8 : (i : Int) < 8 := hl2'
      have hF1 := (unhide hF).1
      have hF2 := (unhide hF).2.1
      have hF3 := (unhide hF).2.2.1
      have hF4 := (unhide hF).2.2.2.1
      have hF5 := (unhide hF).2.2.2.2.1
      have hF6 := (unhide hF).2.2.2.2.2.1
      clear hF hf hu hl hwq hwp r0 r1 q0 q1 p0 p1 hu2 HH hrel hv hz
      go_wp2_with fail
      go_loopw [15] (fun v15 wr => ∃ k : Int, at_ ≤ k ∧ k ≤ u + 4 ∧ v15 = .int .i64 k ∧ Hid (y2.grownBy wr none)) (fun v15 _ => (u + 5 - intOf v15).toNat)
      case atStart => exact ⟨at_, by omega, by omega, rfl, World.grownBy.refl _ _⟩
      case round =>
        obtain ⟨k, hk0, hk4, rfl, hgr⟩ := hrel
        have HTr := hide ((unhide HT).on (unhide hgr))
        have hw3 : IntKind.i64.wrap (u + 3) = u + 3 := by rw [IntKind.wrap_i64]; omega
        by_cases hku : k ≤ u + 3
        · by_cases hka : k = at_
          · subst hka
            have hkf : k ≤ f := by omega
            have hnk : ¬ k < k := by omega
            have chow := hide (tbHow_any a2 (i + 1) c2 G S k wr (unhide HTr).2.2.1 (unhide HTr).1 (unhide HTr).2.1)
            obtain ⟨V, hV⟩ : ∃ V, Tb.how (Tb.stand G (i + 1) S k) = V := ⟨_, rfl⟩
            rw [hV] at chow
            obtain ⟨V1, V2⟩ := V
            clear hV
            cases ei : ((i : Int) == 0) with
            | true =>
              have HKK := hide (And.intro hk0 hk4)
              clear hk0 hk4 HST
              go_wp2_with fail
              refine (unhide chow).mono ?_
              rintro e x ⟨rfl, hx⟩
              have HX := hide (grown_trans (unhide hgr) hx)
              clear hx chow hgr
              go_wp2
              go_roundw
              case rel => exact ⟨k + 1, by omega, by omega, by go_num, unhide HX⟩
              case measure => simp [intOf]; omega
            | false =>
              have HKK := hide (And.intro hk0 hk4)
              clear hk0 hk4 HST
              go_wp2_with fail
              refine (unhide chow).mono ?_
              rintro e x ⟨rfl, hx⟩
              have HX := hide (grown_trans (unhide hgr) hx)
              clear hx chow hgr
              go_wp2
              go_roundw
              case rel => exact ⟨k + 1, by omega, by omega, by go_num, unhide HX⟩
              case measure => simp [intOf]; omega
          · have hk1 : at_ < k := by omega
            clear hka
            by_cases hi0 : i = 0
            · have ei : ((i : Int) == 0) = true := by rw [hi0]; rfl
              rcases (show k < f ∨ k = f ∨ u < k ∨ (f < k ∧ k ≤ u ∧ l < k) ∨ (f < k ∧ k ≤ l) by omega) with h | rfl | h | ⟨h, h', h''⟩ | ⟨h, h'⟩
              · have hst : Tb.stand G (i + 1) S k = 0 := by
                  rw [unhide HST k hk1]
                  unfold Tb.lives
                  rw [if_pos h, if_pos hi0]
                have chow := hide (tbHow_any a2 (i + 1) c2 G S k wr (unhide HTr).2.2.1 (unhide HTr).1 (unhide HTr).2.1)
                have ccnt := hide fun x (hg : wr.grownBy x none) => tbCounts_any a2 (i + 1) c2 G S k x ((unhide HTr).on hg).2.2.1 (unhide HTr).1 (unhide HTr).2.1
                rw [hst, show Tb.how 0 = (0, false) by decide] at chow
                rw [hst, show ((0 : Int) == 3) = false by decide] at ccnt
                have a1 : k ≤ f := by omega
                have a2 : (k == f) = false := by simp; omega
                have a3 : ¬ f < k := by omega
                clear hst HST hi0
                go_wp2_with fail
                refine (unhide chow).mono ?_
                rintro e x ⟨rfl, hx⟩
                have HX := hide (grown_trans (unhide hgr) hx)
                have HXW := hide hx
                clear hx chow
                go_wp2_with fail
                refine (unhide ccnt _ (unhide HXW)).mono ?_
                rintro e y3 ⟨rfl, hy⟩
                have HY3 := hide (grown_trans (unhide HX) hy)
                clear hy ccnt hgr HX HXW
                go_wp2
                go_roundw
                case rel => exact ⟨k + 1, by omega, by omega, by go_num, unhide HY3⟩
                case measure => simp [intOf]; omega
              · have hst : Tb.stand G (i + 1) S k = 1 := by
                  rw [unhide HST k hk1]
                  unfold Tb.lives
                  rw [if_neg (by omega), if_pos rfl, if_pos hi0]
                have chow := hide (tbHow_any a2 (i + 1) c2 G S k wr (unhide HTr).2.2.1 (unhide HTr).1 (unhide HTr).2.1)
                have ccnt := hide fun x (hg : wr.grownBy x none) => tbCounts_any a2 (i + 1) c2 G S k x ((unhide HTr).on hg).2.2.1 (unhide HTr).1 (unhide HTr).2.1
                rw [hst, show Tb.how 1 = (0, true) by decide] at chow
                rw [hst, show ((1 : Int) == 3) = false by decide] at ccnt
                have a1 : ¬ k < k := by omega
                clear hst HST hi0
                go_wp2_with fail
                refine (unhide chow).mono ?_
                rintro e x ⟨rfl, hx⟩
                have HX := hide (grown_trans (unhide hgr) hx)
                have HXW := hide hx
                clear hx chow
                go_wp2_with fail
                refine (unhide ccnt _ (unhide HXW)).mono ?_
                rintro e y3 ⟨rfl, hy⟩
                have HY3 := hide (grown_trans (unhide HX) hy)
                clear hy ccnt hgr HX HXW
                go_wp2
                go_roundw
                case rel => exact ⟨k + 1, by omega, by omega, by go_num, unhide HY3⟩
                case measure => simp [intOf]; omega
              · have hst : Tb.stand G (i + 1) S k = 5 := by
                  rw [unhide HST k hk1]
                  unfold Tb.lives
                  rw [if_neg (by omega), if_neg (by omega), if_pos h]
                have chow := hide (tbHow_any a2 (i + 1) c2 G S k wr (unhide HTr).2.2.1 (unhide HTr).1 (unhide HTr).2.1)
                have ccnt := hide fun x (hg : wr.grownBy x none) => tbCounts_any a2 (i + 1) c2 G S k x ((unhide HTr).on hg).2.2.1 (unhide HTr).1 (unhide HTr).2.1
                rw [hst, show Tb.how 5 = (2, false) by decide] at chow
                rw [hst, show ((5 : Int) == 3) = false by decide] at ccnt
                have a1 : ¬ k ≤ f := by omega
                have a2 : (k == f) = false := by simp; omega
                have a3 : f < k := by omega
                have a4 : ¬ k ≤ l := by omega
                clear hst HST hi0
                go_wp2_with fail
                refine (unhide chow).mono ?_
                rintro e x ⟨rfl, hx⟩
                have HX := hide (grown_trans (unhide hgr) hx)
                have HXW := hide hx
                clear hx chow
                go_wp2_with fail
                refine (unhide ccnt _ (unhide HXW)).mono ?_
                rintro e y3 ⟨rfl, hy⟩
                have HY3 := hide (grown_trans (unhide HX) hy)
                clear hy ccnt hgr HX HXW
                go_wp2
                go_roundw
                case rel => exact ⟨k + 1, by omega, by omega, by go_num, unhide HY3⟩
                case measure => simp [intOf]; omega
              · have hst : Tb.stand G (i + 1) S k = 4 := by
                  rw [unhide HST k hk1]
                  unfold Tb.lives
                  rw [if_neg (by omega), if_neg (by omega), if_neg (by omega), if_pos h'']
                have chow := hide (tbHow_any a2 (i + 1) c2 G S k wr (unhide HTr).2.2.1 (unhide HTr).1 (unhide HTr).2.1)
                have ccnt := hide fun x (hg : wr.grownBy x none) => tbCounts_any a2 (i + 1) c2 G S k x ((unhide HTr).on hg).2.2.1 (unhide HTr).1 (unhide HTr).2.1
                rw [hst, show Tb.how 4 = (1, false) by decide] at chow
                rw [hst, show ((4 : Int) == 3) = false by decide] at ccnt
                have a1 : ¬ k ≤ f := by omega
                have a2 : (k == f) = false := by simp; omega
                have a3 : ¬ u < k := by omega
                have a4 : ¬ k ≤ l := by omega
                clear hst HST hi0
                go_wp2_with fail
                refine (unhide chow).mono ?_
                rintro e x ⟨rfl, hx⟩
                have HX := hide (grown_trans (unhide hgr) hx)
                have HXW := hide hx
                clear hx chow
                go_wp2_with fail
                refine (unhide ccnt _ (unhide HXW)).mono ?_
                rintro e y3 ⟨rfl, hy⟩
                have HY3 := hide (grown_trans (unhide HX) hy)
                clear hy ccnt hgr HX HXW
                go_wp2
                go_roundw
                case rel => exact ⟨k + 1, by omega, by omega, by go_num, unhide HY3⟩
                case measure => simp [intOf]; omega
              · have hst : Tb.stand G (i + 1) S k = 3 := by
                  rw [unhide HST k hk1]
                  unfold Tb.lives
                  rw [if_neg (by omega), if_neg (by omega), if_neg (by omega), if_neg (by omega)]
                have chow := hide (tbHow_any a2 (i + 1) c2 G S k wr (unhide HTr).2.2.1 (unhide HTr).1 (unhide HTr).2.1)
                have ccnt := hide fun x (hg : wr.grownBy x none) => tbCounts_any a2 (i + 1) c2 G S k x ((unhide HTr).on hg).2.2.1 (unhide HTr).1 (unhide HTr).2.1
                rw [hst, show Tb.how 3 = (1, false) by decide] at chow
                rw [hst, show ((3 : Int) == 3) = true by decide] at ccnt
                have a1 : ¬ k ≤ f := by omega
                have a2 : (k == f) = false := by simp; omega
                have a3 : ¬ u < k := by omega
                clear hst HST hi0
                go_wp2_with fail
                refine (unhide chow).mono ?_
                rintro e x ⟨rfl, hx⟩
                have HX := hide (grown_trans (unhide hgr) hx)
                have HXW := hide hx
                clear hx chow
                go_wp2_with fail
                refine (unhide ccnt _ (unhide HXW)).mono ?_
                rintro e y3 ⟨rfl, hy⟩
                have HY3 := hide (grown_trans (unhide HX) hy)
                clear hy ccnt hgr HX HXW
                go_wp2
                go_roundw
                case rel => exact ⟨k + 1, by omega, by omega, by go_num, unhide HY3⟩
                case measure => simp [intOf]; omega
            · have ei : ((i : Int) == 0) = false := by simp; omega
              rcases (show k < f ∨ k = f ∨ u < k ∨ (f < k ∧ k ≤ u ∧ l < k) ∨ (f < k ∧ k ≤ l) by omega) with h | rfl | h | ⟨h, h', h''⟩ | ⟨h, h'⟩
              · have hst : Tb.stand G (i + 1) S k = 5 := by
                  rw [unhide HST k hk1]
                  unfold Tb.lives
                  rw [if_pos h, if_neg hi0]
                have chow := hide (tbHow_any a2 (i + 1) c2 G S k wr (unhide HTr).2.2.1 (unhide HTr).1 (unhide HTr).2.1)
                have ccnt := hide fun x (hg : wr.grownBy x none) => tbCounts_any a2 (i + 1) c2 G S k x ((unhide HTr).on hg).2.2.1 (unhide HTr).1 (unhide HTr).2.1
                rw [hst, show Tb.how 5 = (2, false) by decide] at chow
                rw [hst, show ((5 : Int) == 3) = false by decide] at ccnt
                have a1 : k ≤ f := by omega
                have a2 : (k == f) = false := by simp; omega
                have a3 : ¬ f < k := by omega
                clear hst HST hi0
                go_wp2_with fail
                refine (unhide chow).mono ?_
                rintro e x ⟨rfl, hx⟩
                have HX := hide (grown_trans (unhide hgr) hx)
                have HXW := hide hx
                clear hx chow
                go_wp2_with fail
                refine (unhide ccnt _ (unhide HXW)).mono ?_
                rintro e y3 ⟨rfl, hy⟩
                have HY3 := hide (grown_trans (unhide HX) hy)
                clear hy ccnt hgr HX HXW
                go_wp2
                go_roundw
                case rel => exact ⟨k + 1, by omega, by omega, by go_num, unhide HY3⟩
                case measure => simp [intOf]; omega
              · have hst : Tb.stand G (i + 1) S k = 2 := by
                  rw [unhide HST k hk1]
                  unfold Tb.lives
                  rw [if_neg (by omega), if_pos rfl, if_neg hi0]
                have chow := hide (tbHow_any a2 (i + 1) c2 G S k wr (unhide HTr).2.2.1 (unhide HTr).1 (unhide HTr).2.1)
                have ccnt := hide fun x (hg : wr.grownBy x none) => tbCounts_any a2 (i + 1) c2 G S k x ((unhide HTr).on hg).2.2.1 (unhide HTr).1 (unhide HTr).2.1
                rw [hst, show Tb.how 2 = (2, true) by decide] at chow
                rw [hst, show ((2 : Int) == 3) = false by decide] at ccnt
                have a1 : ¬ k < k := by omega
                clear hst HST hi0
                go_wp2_with fail
                refine (unhide chow).mono ?_
                rintro e x ⟨rfl, hx⟩
                have HX := hide (grown_trans (unhide hgr) hx)
                have HXW := hide hx
                clear hx chow
                go_wp2_with fail
                refine (unhide ccnt _ (unhide HXW)).mono ?_
                rintro e y3 ⟨rfl, hy⟩
                have HY3 := hide (grown_trans (unhide HX) hy)
                clear hy ccnt hgr HX HXW
                go_wp2
                go_roundw
                case rel => exact ⟨k + 1, by omega, by omega, by go_num, unhide HY3⟩
                case measure => simp [intOf]; omega
              · have hst : Tb.stand G (i + 1) S k = 5 := by
                  rw [unhide HST k hk1]
                  unfold Tb.lives
                  rw [if_neg (by omega), if_neg (by omega), if_pos h]
                have chow := hide (tbHow_any a2 (i + 1) c2 G S k wr (unhide HTr).2.2.1 (unhide HTr).1 (unhide HTr).2.1)
                have ccnt := hide fun x (hg : wr.grownBy x none) => tbCounts_any a2 (i + 1) c2 G S k x ((unhide HTr).on hg).2.2.1 (unhide HTr).1 (unhide HTr).2.1
                rw [hst, show Tb.how 5 = (2, false) by decide] at chow
                rw [hst, show ((5 : Int) == 3) = false by decide] at ccnt
                have a1 : ¬ k ≤ f := by omega
                have a2 : (k == f) = false := by simp; omega
                have a3 : f < k := by omega
                have a4 : ¬ k ≤ l := by omega
                clear hst HST hi0
                go_wp2_with fail
                refine (unhide chow).mono ?_
                rintro e x ⟨rfl, hx⟩
                have HX := hide (grown_trans (unhide hgr) hx)
                have HXW := hide hx
                clear hx chow
                go_wp2_with fail
                refine (unhide ccnt _ (unhide HXW)).mono ?_
                rintro e y3 ⟨rfl, hy⟩
                have HY3 := hide (grown_trans (unhide HX) hy)
                clear hy ccnt hgr HX HXW
                go_wp2
                go_roundw
                case rel => exact ⟨k + 1, by omega, by omega, by go_num, unhide HY3⟩
                case measure => simp [intOf]; omega
              · have hst : Tb.stand G (i + 1) S k = 4 := by
                  rw [unhide HST k hk1]
                  unfold Tb.lives
                  rw [if_neg (by omega), if_neg (by omega), if_neg (by omega), if_pos h'']
                have chow := hide (tbHow_any a2 (i + 1) c2 G S k wr (unhide HTr).2.2.1 (unhide HTr).1 (unhide HTr).2.1)
                have ccnt := hide fun x (hg : wr.grownBy x none) => tbCounts_any a2 (i + 1) c2 G S k x ((unhide HTr).on hg).2.2.1 (unhide HTr).1 (unhide HTr).2.1
                rw [hst, show Tb.how 4 = (1, false) by decide] at chow
                rw [hst, show ((4 : Int) == 3) = false by decide] at ccnt
                have a1 : ¬ k ≤ f := by omega
                have a2 : (k == f) = false := by simp; omega
                have a3 : ¬ u < k := by omega
                have a4 : ¬ k ≤ l := by omega
                clear hst HST hi0
                go_wp2_with fail
                refine (unhide chow).mono ?_
                rintro e x ⟨rfl, hx⟩
                have HX := hide (grown_trans (unhide hgr) hx)
                have HXW := hide hx
                clear hx chow
                go_wp2_with fail
                refine (unhide ccnt _ (unhide HXW)).mono ?_
                rintro e y3 ⟨rfl, hy⟩
                have HY3 := hide (grown_trans (unhide HX) hy)
                clear hy ccnt hgr HX HXW
                go_wp2
                go_roundw
                case rel => exact ⟨k + 1, by omega, by omega, by go_num, unhide HY3⟩
                case measure => simp [intOf]; omega
              · have hst : Tb.stand G (i + 1) S k = 3 := by
                  rw [unhide HST k hk1]
                  unfold Tb.lives
                  rw [if_neg (by omega), if_neg (by omega), if_neg (by omega), if_neg (by omega)]
                have chow := hide (tbHow_any a2 (i + 1) c2 G S k wr (unhide HTr).2.2.1 (unhide HTr).1 (unhide HTr).2.1)
                have ccnt := hide fun x (hg : wr.grownBy x none) => tbCounts_any a2 (i + 1) c2 G S k x ((unhide HTr).on hg).2.2.1 (unhide HTr).1 (unhide HTr).2.1
                rw [hst, show Tb.how 3 = (1, false) by decide] at chow
                rw [hst, show ((3 : Int) == 3) = true by decide] at ccnt
                have a1 : ¬ k ≤ f := by omega
                have a2 : (k == f) = false := by simp; omega
                have a3 : ¬ u < k := by omega
                clear hst HST hi0
                go_wp2_with fail
                refine (unhide chow).mono ?_
                rintro e x ⟨rfl, hx⟩
                have HX := hide (grown_trans (unhide hgr) hx)
                have HXW := hide hx
                clear hx chow
                go_wp2_with fail
                refine (unhide ccnt _ (unhide HXW)).mono ?_
                rintro e y3 ⟨rfl, hy⟩
                have HY3 := hide (grown_trans (unhide HX) hy)
                clear hy ccnt hgr HX HXW
                go_wp2
                go_roundw
                case rel => exact ⟨k + 1, by omega, by omega, by go_num, unhide HY3⟩
                case measure => simp [intOf]; omega
        · have hge : ¬ k ≤ u + 3 := hku
          have HG := hide (grown_trans (unhide HW) (unhide hgr))
          clear hku hk0 hk4 HST
          go_wp2
          go_roundw
          case rel => exact ⟨i + 1, c2, a2, u, G, by have := unhide HI; omega, by have := unhide HI; omega, by go_num, rfl, rfl, by omega, unhide HG, unhide HTr, unhide HL⟩
          case measure => simp [intOf]; have := unhide HI; omega
    · have HN := hide (show len1 ≠ 0 → (i : Int) = min (len1 : Int) 8 from fun h => by omega)
      have hrel1 := hide (unhide hrel).1
      by_cases hl : i < len1
      · obtain rfl : i = 8 := by omega
        have hl1 : (8 : Int) < (len1 : Int) := by omega
        have e0 : ((len1 : Int) == 0) = false := by simp; omega
        clear hlt hl hrel hv hz HN
        go_wp2
        go_ret
        exact ⟨rfl, none_below (unhide hrel1)⟩
      · obtain rfl : i = len1 := by omega
        have hl1 : ¬ (i : Int) < (i : Int) := by omega
        have h8 : (i : Int) ≤ 8 := by omega
        clear hlt hl hrel hv hz HN
        cases e0 : ((i : Int) == 0) with
        | true =>
          go_wp2
          go_ret
          exact ⟨rfl, none_below (unhide hrel1)⟩
        | false =>
          go_wp2
          go_ret
          exact ⟨rfl, none_below (unhide hrel1)⟩

set_option maxRecDepth 100000 in
theorem lifted (os : Os) (started : os.Started) (H : Type) (enc : TypeId × Value → H) :
    ReturnsInHanded {} Try.checked os 3 .any (Rows.tableLivesSpec.pre6 enc Try.prog Try.f3 Rows.tableLivesRow.domain false) (Rows.tableLivesSpec.post enc Try.prog Try.f3 false true false false) := by
  refine returnsInHanded_of_change (C := Try.checked) own started (by kernel_rfl) Try.func3
    (ChangeSpec.witness6 (enc := enc) (C := Try.checked) false ⟨#[], #[.int .i64 0, .slice none 0 0], []⟩ 8 (by kernel_rfl) (by kernel_rfl) (by kernel_rfl) (by kernel_rfl)) ?_
  intro W base args ds gs before hval0 hW hcnd _
  have hval : ∀ (j : Nat) t v, Try.f3.params[j]? = some t → args[j]? = some v → Value.okWide Try.prog W .any base t v := hval0
  have hW' := hW
  obtain ⟨p, q, hA0, hV, rfl, hfz, hnd⟩ := hW
  have hA : DataW.TrodAll enc Try.prog W 0 (fun _ => true) true Try.f3.params.toList args.toList ds p := hA0
  rw [Try.params3] at hA hval
  obtain ⟨v0, vs0, d0, ds0, p0, q0, hargs, rfl, rfl, h0, r0⟩ := trodAll_cons hA
  obtain ⟨v1, vs1, d1, ds1, p1, q1, rfl, rfl, rfl, h1, r1⟩ := trodAll_cons r0
  obtain ⟨rfl, rfl, rfl⟩ := trodAll_nil r1
  obtain rfl : args = #[v0, v1] := by cases args; simp_all
  obtain ⟨rfl, rfl⟩ := trodVars_none hV
  obtain ⟨a0, rfl, rfl, rfl, w0⟩ := open_int Try.underlying3 (hval 0 3 v0 rfl rfl) h0
  obtain ⟨a1, len1, cap1, rfl⟩ := okWide_slice Try.underlying22 (hval 1 22 v1 rfl rfl)
  have k1 := h1
  have lt1 : ∀ x ∈ p1, x.block < W.heap.size := by obtain ⟨m, hm⟩ := k1; exact DataW.trod_lt m _ _ _ hm
  obtain ⟨z1, w1⟩ : ∃ zs, IsRow .i64 W a1 len1 cap1 zs := by
    obtain ⟨fuel, hf⟩ := h1
    rcases open_ints Try.underlying22 Try.underlying3 (by kernel_rfl) hf with ⟨hcs, _⟩ | ⟨x, l, c, zs, hcs, _, hl, hm, hz, _, hcell, hwz⟩
    · simp [Value.cells] at hcs
      obtain ⟨rfl, rfl, rfl⟩ := hcs
      exact ⟨[], .inl ⟨rfl, rfl, rfl, rfl⟩⟩
    · simp [Value.cells] at hcs
      obtain ⟨rfl, rfl, rfl⟩ := hcs
      exact ⟨zs, .inr ⟨_, rfl, hl, hm, by simpa using hz, hcell, hwz⟩⟩
  clear hA0 hval0
  refine (walk a0 a1 len1 cap1 z1 W w0 w1).mono fun e W' ⟨he, bel⟩ => ?_
  subst he
  exact ⟨_, rfl, _, _, _, [], _, [], hW', trodAll_mk1 (shut_bool Try.underlying4 _), (trodAll_cons_mk (shut_int Try.underlying3 w0) (trodAll_cons_mk (Below.trod laidOut (by kernel_rfl) (of_decide_eq_true (by kernel_rfl)) k1 bel lt1) trodAll_mk0)), rfl, bel.frame _, fun h => by cases h⟩

theorem over : Rows.tableLivesRow.holds Try.pinned (OpenSpec.ofChange Rows.tableLivesSpec) :=
  OpenClaim.holds_of_wide 3 Try.f3 rfl rfl rfl rfl rfl rfl rfl ⟨rfl, rfl, rfl, rfl, rfl⟩ rfl rfl rfl rfl rfl (by kernel_rfl) Try.func3 (by kernel_rfl)
    (of_decide_eq_true (by kernel_rfl)) (by unfold Func.isWrapper; first | (rw [if_pos (by decide +kernel)]; kernel_rfl) | (rw [if_neg (by decide +kernel)]; exact ⟨rfl, rfl⟩))
    (fun os started H enc _ => lifted os started H enc)

theorem proved : Rows.TableLivesSaid := over
#print axioms proved
end Go.Proofs.Ytiegccdgoemamab.tableLives
