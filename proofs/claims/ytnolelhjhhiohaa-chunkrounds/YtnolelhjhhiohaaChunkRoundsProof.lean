/-
  Of n pieces, w a round, each that was not heard of is told once or twice within the first rounds that could tell all, and one that was heard of is never told: for every n, w and heard, at this commit; no condition.
-/
import Derived.Test.YtnolelhjhhiohaaRows
import Derived.WalkKit
import Derived.ProofKit
import Derived.OpenShut
import Derived.Test.YtnolelhjhhiohaaChunkRound
import Derived.BigQuiet
import Derived.Below
import Derived.ChangeOld
import Derived.ShutString
namespace Go.Proofs.Ytnolelhjhhiohaa.chunkRounds
open Go.ChangeShapes Go.WideShapes Go.ChangeAt Go.RowKit
open Go.ChangeMaps (open_string shut_string)
set_option linter.unusedVariables false

theorem own : ownKnob Try.prog.godebug = none := by kernel_rfl

set_option maxRecDepth 8000 in
set_option maxHeartbeats 3200000 in

theorem walk (a0 : Int) (a1 : Int) (a2 : Int) (w0 : (Lit.int .i64 a0).wf = true) (w1 : (Lit.int .i64 a1).wf = true) (w2 : (Lit.int .u32 a2).wf = true) (w : World) :
    Calls Try.prog 7 #[.int .i64 a0, .int .i64 a1, .int .u32 a2] w fun e w' => e = .returned (.bool true) ∧ Below w.heap.size w w' := by
  have hb0 : 0 ≤ a2 ∧ a2 < 4294967296 := by
    simp only [Lit.wf, Bool.and_eq_true, decide_eq_true_eq, show IntKind.u32.min = 0 from by decide, show IntKind.u32.max = 4294967295 from by decide] at w2
    omega
  clear w0 w1 w2
  have ck := hide (known12_any w)
  obtain ⟨i0, hi, hz0, hz1, hz2⟩ := info_parts info_int
  have m0 : 0 ≤ a0 % 16 := Int.emod_nonneg _ (by omega)
  have m1 : a0 % 16 < 16 := Int.emod_lt_of_pos _ (by omega)
  have m2 : 0 ≤ a1 % 8 := Int.emod_nonneg _ (by omega)
  have m3 : a1 % 8 < 8 := Int.emod_lt_of_pos _ (by omega)
  have cw0 := hide (fun x => within12_any a0 16 x (by omega) (by omega))
  have cw1 := hide (fun x => within12_any a1 8 x (by omega) (by omega))
  obtain ⟨n, hT⟩ : ∃ n : Nat, 1 + a0 % 16 = (n : Int) := ⟨(1 + a0 % 16).toNat, by omega⟩
  obtain ⟨W, hW⟩ : ∃ W : Nat, 1 + a1 % 8 = (W : Int) := ⟨(1 + a1 % 8).toNat, by omega⟩
  have HT : Hid (1 ≤ n ∧ n ≤ 16) := (show 1 ≤ n ∧ n ≤ 16 by omega)
  have HW : Hid (1 ≤ W ∧ W ≤ 8) := (show 1 ≤ W ∧ W ≤ 8 by omega)
  obtain ⟨q0, hq0⟩ : ∃ q, a0 % 16 = q := ⟨_, rfl⟩
  obtain ⟨q1, hq1⟩ : ∃ q, a1 % 8 = q := ⟨_, rfl⟩
  rw [hq0] at cw0 hT m0 m1
  rw [hq1] at cw1 hW m2 m3
  clear hq0 hq1
  have n0 : (1 : Int) ≤ (n : Int) := by omega
  have n1 : (n : Int) ≤ 16 := by omega
  go_enter Try.func7, Try.ntmps7
  go_wp2_with fail
  refine (unhide ck).mono ?_
  rintro e x1 ⟨rfl, hg1⟩
  have G1 := hide hg1
  clear ck hg1
  go_wp2_with fail
  refine (unhide cw0 _).mono ?_
  rintro e wq ⟨rfl, hq'⟩
  obtain rfl : x1 = wq := hq'.symm
  go_wp2_with fail
  refine (unhide cw1 _).mono ?_
  rintro e wq ⟨rfl, hq'⟩
  obtain rfl : x1 = wq := hq'.symm
  have cN := hide (ckNewSender_any n x1 (unhide HT).1 (unhide HT).2)
  clear cw0 cw1
  go_wp2_with fail
  refine (unhide cN).mono ?_
  rintro e x2 ⟨p, rfl, hp, hM, hg2⟩
  have cA := hide (ckAck_any p n _ 0 a2 x2 hM hb0.1 hb0.2)
  have G2 := hide (And.intro (Nat.le_trans (unhide G1).size hp) (grown_trans (unhide G1) hg2))
  clear cN hp hM hg2 G1 hT hW
  go_wp2_with fail
  refine (unhide cA).mono ?_
  rintro e x3 ⟨rfl, hM, ht⟩
  have hheard : Ck.heard (fun _ => false) a2 = Ck.bit a2 := funext fun i => by unfold Ck.heard; simp
  rw [hheard] at hM
  have hM3 := hide hM
  have hbel3 : Hid (Below w.heap.size w x3) := (none_below (unhide G2).2).trans (ht.below (unhide G2).2.size (fun i e => by rw [e]; exact (unhide G2).1))
  have hlow : Hid (w.heap.size ≤ p) := (unhide G2).1
  clear cA hM ht G2 hheard hb0
  obtain ⟨S, hS⟩ : ∃ S, S = x3.heap.size := ⟨_, rfl⟩
  have hS' := hide hS
  clear hS
  go_wp2_with (at_make; refine wpList_make_full _ rfl _ _ 31 rfl S 3 i0 (.int .i64 0) 1 Try.underlying31 hi hz0 hz1 .i64 .i64 _ _ n rfl rfl rfl rfl ?q3 ?q4 (Nat.le_of_eq (unhide hS')) ?_)
  case q3 => first | omega | (rw [hz2]; omega)
  case q4 => unfold maxLen; omega
  intro x4 hown hgrow
  rw [← unhide hS'] at hown ⊢
  obtain ⟨had, hhad⟩ : ∃ had, Ck.bit a2 = had := ⟨_, rfl⟩
  have Hhad := hide hhad
  have hR0 : Hid (Ck.Rnd w x4 p S n had 0 0) := by
    rw [hhad] at hM3
    refine ⟨(unhide hM3).on hgrow, (Arr.zero hown).congr (fun j hj => by rw [Ck.tally_zero]; rfl), ?_, unhide hlow, ?_, (unhide hbel3).trans (Turn.below (B := fun _ => False) (Turn.new hgrow) (unhide hbel3).size (fun _ q => q.elim))⟩
    · have := (unhide hM3).box.lt
      have := unhide hS'
      omega
    · have := (unhide hbel3).size
      have := unhide hS'
      omega
  clear hown hgrow hM3 hbel3 hi hz0 hz1 hz2 hhad
  obtain ⟨Lf, hLf⟩ : ∃ Lf, (Ck.U n had).length = Lf := ⟨_, rfl⟩
  have HLf := hide hLf
  have hLn : Hid (Lf ≤ n) := by
    show Lf ≤ n
    rw [← hLf]
    unfold Ck.U
    exact Nat.le_trans (List.length_filter_le _ _) (by simp)
  clear hLf
  go_wp2_with fail
  go_loop [10, 11] (fun v10 v11 => ∃ k : Nat, k ≤ n ∧ v11 = .int .i64 (k : Int) ∧ v10 = .int .i64 ((Ck.pos had k : Nat) : Int)) (fun _ v11 => 20 - (intOf v11).toNat)
  case atStart => exact ⟨0, Nat.zero_le _, rfl, rfl⟩
  case round =>
    obtain ⟨k, hk, rfl, rfl⟩ := hrel
    have hpk : Ck.pos had k ≤ 16 := by
      have := Ck.pos_le (n := n) had hk
      have h1 := unhide hLn
      have h2 := unhide HLf
      have := (unhide HT).2
      omega
    by_cases hlt : k < n
    · have hlt' : (k : Int) < (n : Int) := by omega
      have k0 : (0 : Int) ≤ (k : Int) := by omega
      have k32 : (k : Int) ≤ 32 := by omega
      have HL := hide hlt
      have hbc := Ck.bit_cases a2 k
      rw [unhide Hhad] at hbc
      have hps := hide (Ck.pos_succ had k)
      obtain ⟨b, hb⟩ : ∃ b, had k = b := ⟨_, rfl⟩
      rw [hb] at hbc hps
      obtain ⟨pk, hpke⟩ : ∃ pk, Ck.pos had k = pk := ⟨_, rfl⟩
      rw [hpke] at hps hpk ⊢
      have hpk' : (pk : Int) ≤ 16 := by omega
      clear hlt hk hb hpke hpk
      cases b with
      | true =>
        have hbc2 : (bits .and .u32 (a2 / 2 ^ k) 1 == 0) = false := hbc
        have hps2 : Hid (Ck.pos had (k + 1) = pk) := unhide hps
        clear hbc
        go_wp2
        go_round
        case rel => exact ⟨k + 1, by have := unhide HL; omega, by go_num, by rw [unhide hps2]⟩
        case measure => simp [intOf]; have := unhide HL; have := unhide HT; omega
      | false =>
        have hbc2 : (bits .and .u32 (a2 / 2 ^ k) 1 == 0) = true := hbc
        have hps2 : Hid (Ck.pos had (k + 1) = pk + 1) := unhide hps
        clear hbc
        go_wp2
        go_round
        case rel => exact ⟨k + 1, by have := unhide HL; omega, by go_num, by rw [unhide hps2]; go_num⟩
        case measure => simp [intOf]; have := unhide HL; have := unhide HT; omega
    · obtain rfl : n = k := by omega
      have hge : ¬ (n : Int) < (n : Int) := by omega
      have hpL : Ck.pos had n = Lf := unhide HLf
      rw [hpL]
      have hLf16 : (Lf : Int) ≤ 16 := by omega
      have HLf16 : Hid (Lf ≤ 16) := (show Lf ≤ 16 by omega)
      have W0 : (1 : Int) ≤ (W : Int) := by have := unhide HW; omega
      have W1 : (W : Int) ≤ 8 := by have := unhide HW; omega
      clear hlt hk hpk hpL
      go_wp2_with fail
      go_loopw [12, 13, 14] (fun v12 _ _ wr => ∃ k at_ T, v12 = .int .i64 ((k : Nat) : Int) ∧ Hid (k ≤ 16 ∧ Ck.Rnd w wr p S n had at_ T ∧ Ck.pos had at_ % Lf = T % Lf ∧ T = k * min W Lf ∧ (k = 0 ∨ (k - 1) * W < Lf))) (fun v12 _ _ _ => 30 - (intOf v12).toNat)
      case atStart => exact ⟨0, 0, 0, rfl, Nat.zero_le _, unhide hR0, rfl, by simp, .inl rfl⟩
      case round =>
        clear hR0
        obtain ⟨k, at_, T, rfl, hX⟩ := hrel
        obtain ⟨m, hm⟩ : ∃ m, k * W = m := ⟨_, rfl⟩
        have hkm : (k : Int) * (W : Int) = (m : Int) := by rw [← hm]; simp
        have hk16 : (k : Int) ≤ 16 := by have := (unhide hX).1; omega
        have hm200 : (m : Int) ≤ 128 := by
          have h1 := (unhide hX).1
          have h2 := (unhide HW).2
          have : k * W ≤ 16 * 8 := Nat.mul_le_mul h1 h2
          omega
        have Hm := hide hm
        clear hm
        by_cases hlt : m < Lf
        · have hlt' : (m : Int) < (Lf : Int) := by omega
          have HL := hide hlt
          have cX := hide ((unhide hX).2.1.next (W : Int))
          rw [unhide HLf, Int.toNat_natCast] at cX
          obtain ⟨c, hc⟩ : ∃ c, min W Lf = c := ⟨_, rfl⟩
          have Hc := hide hc
          rw [hc] at cX
          have hc0 : Hid (0 < c ∧ c ≤ 16) := (show 0 < c ∧ c ≤ 16 by have := unhide HW; have := unhide HLf16; omega)
          have hc16 : (c : Int) ≤ 16 := by have := unhide hc0; omega
          clear hlt hc
          go_wp2_with fail
          refine (unhide cX).mono ?_
          rintro e y ⟨a, cp, rfl, hR, hrow⟩
          obtain ⟨g, rfl, hgS, hgl, hcell⟩ := hrow (unhide hc0).1
          have hR1 := hide hR
          have hpos := hide (Ck.goes_pos had (W : Int) (unhide hX).2.1.mine.lt)
          rw [unhide HLf, Int.toNat_natCast, unhide Hc] at hpos
          have Hg := hide (And.intro hgS hgl)
          have Hcell : Hid (∀ j, j < c → ∃ v, v < n ∧ y.cell? ⟨g, j, none⟩ = some (.int .i64 ((v : Nat) : Int)) ∧ (Ck.U n had)[(T + j) % Lf]? = some v) := fun j hj => by
            obtain ⟨v, h1, h2, h3⟩ := hcell j hj
            rw [Ck.mod_on (unhide hX).2.2.1] at h3
            exact ⟨v, h1, h2, h3⟩
          obtain ⟨at2, hat2⟩ : ∃ at2, Ck.goes n had at_ (W : Int) = at2 := ⟨_, rfl⟩
          rw [hat2] at hR1 hpos
          have HT2 : Hid (T ≤ 100) := by
            obtain ⟨h1, _, _, h4, _⟩ := unhide hX
            show T ≤ 100
            have hh : k * min W Lf ≤ 16 * min W Lf := Nat.mul_le_mul_right _ h1
            by_cases hmm : m < Lf
            · have h6 := unhide Hm
              have h7 : k * min W Lf ≤ k * W := Nat.mul_le_mul_left k (Nat.min_le_left _ _)
              have := unhide HLf16
              omega
            · exact absurd (unhide HL) hmm
          clear hR hrow hcell hgS hgl cX hat2 hkm hm200
          go_wp2_with fail
          go_loopw [14] (fun v14 wi => ∃ j : Nat, j ≤ c ∧ v14 = .int .i64 (j : Int) ∧ Hid (Ck.Rnd w wi p S n had at2 (T + j) ∧ Turn (fun k => k = S) y wi)) (fun v14 _ => 30 - (intOf v14).toNat)
          case atStart => exact ⟨0, Nat.zero_le _, rfl, unhide hR1, Turn.refl _ _⟩
          case round =>
            clear hR1
            obtain ⟨j, hj, rfl, hY⟩ := hrel
            by_cases hjc : j < c
            · have hjc' : (j : Int) < (c : Int) := by omega
              obtain ⟨v, hv1, hv2, hv3⟩ := unhide Hcell j hjc
              have d1 := ((unhide hY).2.cell (unhide Hg).2 (unhide Hg).1 j).trans hv2
              obtain ⟨hc1, f1⟩ := (unhide hY).1.cells
              have d2 := hc1 v hv1
              have hfl := Ck.tally_le n had (T + j) v
              have hct := hide ((unhide hY).1.count (y := v) (by rw [unhide HLf]; exact hv3))
              have htt := hide (unhide hY).2
              obtain ⟨f, hf⟩ : ∃ f, Ck.tally n had (T + j) v = f := ⟨_, rfl⟩
              rw [hf] at d2 hfl hct
              have hf200 : (f : Int) ≤ 200 := by have := unhide HT2; have := unhide hc0; omega
              have hvn : (v : Int) < (n : Int) := by omega
              have HJ := hide hjc
              have hnew : Hid (Turn (fun k => k = S) y (wr.setCell ⟨S, v, none⟩ (.int .i64 ((f + 1 : Nat) : Int)))) := (unhide htt).store S v _ rfl
              obtain ⟨f', hf'⟩ : ∃ f' : Nat, f + 1 = f' := ⟨_, rfl⟩
              have hff : (f : Int) + 1 = (f' : Int) := by omega
              rw [hf'] at hct hnew
              clear hj hjc hv1 hv2 hv3 hc1 hfl hf hf' hY htt
              go_wp2_with fail
              go_roundw
              case rel => exact ⟨j + 1, by have := unhide HJ; omega, by go_num, unhide hct, unhide hnew⟩
              case measure => simp [intOf]; have := unhide HJ; have := unhide hc0; omega
            · obtain rfl : c = j := by omega
              have hge2 : ¬ (c : Int) < (c : Int) := by omega
              have hfin : Hid (k + 1 ≤ 16 ∧ Ck.Rnd w wr p S n had at2 (T + c) ∧ Ck.pos had at2 % Lf = (T + c) % Lf ∧ T + c = (k + 1) * min W Lf ∧ (k + 1 = 0 ∨ (k + 1 - 1) * W < Lf)) := by
                obtain ⟨h1, h2, h3, h4, h5⟩ := unhide hX
                refine ⟨?_, (unhide hY).1, ?_, ?_, .inr ?_⟩
                · have h6 := unhide Hm
                  have h7 := unhide HL
                  have h8 := unhide HLf16
                  have h9 : k * 1 ≤ k * W := Nat.mul_le_mul_left k (unhide HW).1
                  omega
                · rw [unhide hpos, Ck.mod_on h3]
                · rw [h4, Nat.add_mul, Nat.one_mul, unhide Hc]
                · rw [Nat.add_sub_cancel, unhide Hm]
                  exact unhide HL
              clear hj hjc hY
              by_cases hWL : W ≤ Lf
              · have hWL1 : (W : Int) ≤ (Lf : Int) := by omega
                have hcW : (c : Int) = (W : Int) := by have := unhide Hc; omega
                have hne : ((c : Int) != (W : Int)) = false := by simp [hcW]
                have hWL2 : ¬ (Lf : Int) < (W : Int) := by omega
                clear hWL
                go_wp2_with fail
                go_roundw
                case rel => exact ⟨k + 1, _, _, by go_num, hfin⟩
                case measure => simp [intOf]; have := unhide hX; omega
              · have hWL1 : ¬ (W : Int) ≤ (Lf : Int) := by omega
                have hWL2 : (Lf : Int) < (W : Int) := by omega
                have hcW : (c : Int) = (Lf : Int) := by have := unhide Hc; omega
                have hne : ((c : Int) != (Lf : Int)) = false := by simp [hcW]
                clear hWL
                go_wp2_with fail
                go_roundw
                case rel => exact ⟨k + 1, _, _, by go_num, hfin⟩
                case measure => simp [intOf]; have := unhide hX; omega
        · have hge2 : ¬ (m : Int) < (Lf : Int) := by omega
          have hT1 : Hid (Lf ≤ T ∧ T ≤ 2 * Lf ∧ T ≤ 100) := by
            obtain ⟨h1, _, _, h4, h5⟩ := unhide hX
            have hm' := unhide Hm
            have hl := unhide HLf16
            have hw := unhide HW
            show Lf ≤ T ∧ T ≤ 2 * Lf ∧ T ≤ 100
            by_cases hc : W ≤ Lf
            · rw [Nat.min_eq_left hc, hm'] at h4
              rcases h5 with h5 | h5
              · subst h5
                simp at hm'
                omega
              · obtain ⟨k', rfl⟩ : ∃ k', k = k' + 1 := ⟨k - 1, by cases k; simp at hm'; omega; omega⟩
                rw [Nat.add_sub_cancel] at h5
                rw [Nat.add_mul] at hm'
                omega
            · rw [Nat.min_eq_right (by omega)] at h4
              rcases h5 with h5 | h5
              · subst h5
                simp at hm' h4
                omega
              · by_cases hk1 : k = 1
                · subst hk1
                  omega
                · have : 1 * W ≤ (k - 1) * W := Nat.mul_le_mul_right W (by cases k; simp at hm'; omega; omega)
                  omega
          have hR := hide (unhide hX).2.1
          clear hX
          go_wp2_with fail
          go_loop [15, 16] (fun v15 _ => ∃ i : Nat, i ≤ n ∧ v15 = .int .i64 (i : Int)) (fun v15 _ => 30 - (intOf v15).toNat)
          case atStart => exact ⟨0, Nat.zero_le _, rfl⟩
          case round =>
            obtain ⟨i, hin, rfl⟩ := hrel
            by_cases hlt2 : i < n
            · have hlt3 : (i : Int) < (n : Int) := by omega
              have i0 : (0 : Int) ≤ (i : Int) := by omega
              have i32 : (i : Int) ≤ 32 := by omega
              have d1 := (unhide hR).cells.1 i hlt2
              have hbit : (bits .and .u32 (a2 / 2 ^ i) 1 == 1) = had i := by rw [← unhide Hhad]; rfl
              have HI := hide hlt2
              obtain ⟨b, hb⟩ : ∃ b, had i = b := ⟨_, rfl⟩
              rw [hb] at hbit
              cases b with
              | true =>
                rw [Ck.tally_none hb] at d1
                clear hb hin hlt2
                go_wp2
                go_round
                case rel => exact ⟨i + 1, by have := unhide HI; omega, by go_num⟩
                case measure => simp [intOf]; have := unhide HI; have := unhide HT; omega
              | false =>
                obtain ⟨e1, e2⟩ := Ck.tally_ends (n := n) (T := T) (x := i) (had := had) (by rw [unhide HLf]; exact (unhide hT1).1) (by rw [unhide HLf]; exact (unhide hT1).2.1) hlt2 hb
                obtain ⟨f, hf⟩ : ∃ f, Ck.tally n had T i = f := ⟨_, rfl⟩
                rw [hf] at d1 e1 e2
                have e3 : ¬ (f : Int) < 1 := by omega
                have e4 : ¬ (2 : Int) < (f : Int) := by omega
                clear hb hin hlt2 hf e1 e2
                go_wp2
                go_round
                case rel => exact ⟨i + 1, by have := unhide HI; omega, by go_num⟩
                case measure => simp [intOf]; have := unhide HI; have := unhide HT; omega
            · have hge3 : ¬ (i : Int) < (n : Int) := by omega
              have cD := hide (ckDone_any p n had _ wr (unhide hR).mine)
              have hal := Ck.all_left n had
              rw [unhide HLf] at hal
              clear hin hlt2
              by_cases hL0 : Lf = 0
              · have cX := hide ((unhide hR).next (W : Int))
                rw [unhide HLf, hL0, Nat.min_zero] at cX
                rw [hal.2 hL0] at cD
                have e0 : ((Lf : Int) == 0) = true := by simp [hL0]
                have e5 : ¬ (0 : Int) < (Lf : Int) := by omega
                clear hL0 hal
                go_wp2_with fail
                refine (unhide cD).mono ?_
                rintro e wq ⟨rfl, hq'⟩
                obtain rfl : wr = wq := hq'.symm
                go_wp2_with fail
                refine (unhide cX).mono ?_
                rintro e y ⟨a, cp, rfl, hR2, _⟩
                have hbel := hide hR2.bel
                clear hR2
                go_wp2
                go_ret
                exact ⟨rfl, unhide hbel⟩
              · have hall : Ck.all n had = false := by
                  cases e : Ck.all n had with
                  | false => rfl
                  | true => exact absurd (hal.1 e) hL0
                rw [hall] at cD
                have e0 : ((Lf : Int) == 0) = false := by simp; omega
                have e5 : (0 : Int) < (Lf : Int) := by omega
                have hbel := hide (unhide hR).bel
                clear hL0 hal hall
                go_wp2_with fail
                refine (unhide cD).mono ?_
                rintro e wq ⟨rfl, hq'⟩
                obtain rfl : wr = wq := hq'.symm
                go_wp2
                go_ret
                exact ⟨rfl, unhide hbel⟩

set_option maxRecDepth 100000 in
theorem lifted (os : Os) (started : os.Started) (H : Type) (enc : TypeId × Value → H) :
    ReturnsInHanded {} Try.checked os 7 .any (Rows.chunkRoundsSpec.pre6 enc Try.prog Try.f7 Rows.chunkRoundsRow.domain false) (Rows.chunkRoundsSpec.post enc Try.prog Try.f7 false true false false) := by
  refine returnsInHanded_of_change (C := Try.checked) own started (by kernel_rfl) Try.func7
    (ChangeSpec.witness6 (enc := enc) (C := Try.checked) false ⟨#[], #[.int .i64 0, .int .i64 0, .int .u32 0], []⟩ 8 (by kernel_rfl) (by kernel_rfl) (by kernel_rfl) (by kernel_rfl)) ?_
  intro W base args ds gs before hval0 hW hcnd _
  have hval : ∀ (j : Nat) t v, Try.f7.params[j]? = some t → args[j]? = some v → Value.okWide Try.prog W .any base t v := hval0
  have hW' := hW
  obtain ⟨p, q, hA0, hV, rfl, hfz, hnd⟩ := hW
  have hA : DataW.TrodAll enc Try.prog W 0 (fun _ => true) true Try.f7.params.toList args.toList ds p := hA0
  rw [Try.params7] at hA hval
  obtain ⟨v0, vs0, d0, ds0, p0, q0, hargs, rfl, rfl, h0, r0⟩ := trodAll_cons hA
  obtain ⟨v1, vs1, d1, ds1, p1, q1, rfl, rfl, rfl, h1, r1⟩ := trodAll_cons r0
  obtain ⟨v2, vs2, d2, ds2, p2, q2, rfl, rfl, rfl, h2, r2⟩ := trodAll_cons r1
  obtain ⟨rfl, rfl, rfl⟩ := trodAll_nil r2
  obtain rfl : args = #[v0, v1, v2] := by cases args; simp_all
  obtain ⟨rfl, rfl⟩ := trodVars_none hV
  obtain ⟨a0, rfl, rfl, rfl, w0⟩ := open_int Try.underlying3 (hval 0 3 v0 rfl rfl) h0
  obtain ⟨a1, rfl, rfl, rfl, w1⟩ := open_int Try.underlying3 (hval 1 3 v1 rfl rfl) h1
  obtain ⟨a2, rfl, rfl, rfl, w2⟩ := open_int Try.underlying43 (hval 2 43 v2 rfl rfl) h2
  clear hA0 hval0
  refine (walk a0 a1 a2 w0 w1 w2 W).mono fun e W' ⟨he, hg⟩ => ?_
  subst he
  exact ⟨_, rfl, _, _, _, [], _, [], hW', trodAll_mk1 (shut_bool Try.underlying4 _), (trodAll_cons_mk (shut_int Try.underlying3 w0) (trodAll_cons_mk (shut_int Try.underlying3 w1) (trodAll_cons_mk (shut_int Try.underlying43 w2) trodAll_mk0))), rfl, hg.frame _, fun h => by cases h⟩

theorem over : Rows.chunkRoundsRow.holds Try.pinned (OpenSpec.ofChange Rows.chunkRoundsSpec) :=
  OpenClaim.holds_of_wide 7 Try.f7 rfl rfl rfl rfl rfl rfl rfl ⟨rfl, rfl, rfl, rfl, rfl⟩ rfl rfl rfl rfl rfl (by kernel_rfl) Try.func7 (by kernel_rfl)
    (of_decide_eq_true (by kernel_rfl)) (by unfold Func.isWrapper; first | (rw [if_pos (by decide +kernel)]; kernel_rfl) | (rw [if_neg (by decide +kernel)]; exact ⟨rfl, rfl⟩))
    (fun os started H enc _ => lifted os started H enc)

theorem proved : Rows.ChunkRoundsSaid :=
  over
#print axioms proved
end Go.Proofs.Ytnolelhjhhiohaa.chunkRounds
