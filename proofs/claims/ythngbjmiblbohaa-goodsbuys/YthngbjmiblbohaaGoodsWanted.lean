/-
  Which item an input is about, in goods.
-/
import Derived.Test.YthngbjmiblbohaaGoodsWant
namespace Go.Proofs.Ythngbjmiblbohaa
open Go.RowKit

set_option maxHeartbeats 3200000 in
theorem wanted_any (B gC gE gI cC cI k s : Nat) (X Y G input : Int) (c : Nat → Int) (I : Nat → Nat → Int) (w : World) (hN : Gd.Near w B gC gE gI cC cI k s X Y G) (hC : Vec w.heap.size w (some ⟨gC, 0, none⟩) 384 (Byts c)) (hc : ∀ i, 0 ≤ c i ∧ c i ≤ 255) (hI : Its w gI 0 40 I) :
    Calls Try.prog 53 #[.pointer (some ⟨B, 0, none⟩), .pointer (some ⟨gE, k * 11, none⟩), .int .i64 input] w (Says w (.int .i64 (Gd.want I (s : Int) X Y (decide (Gr.at 384 c X Y = 5)) G input))) := by
  have hN' := hide hN
  have hI' := hide hI
  have hC' := hide hC
  have hc' := hide hc
  obtain ⟨lB, lE, k32, s4, b4, b6, b7, e2, e3, e4⟩ := hN
  obtain ⟨r, hr⟩ : ∃ r, Gd.want I (s : Int) X Y (decide (Gr.at 384 c X Y = 5)) G input = r := ⟨_, rfl⟩
  rw [hr]
  have hr' := hide hr
  obtain ⟨f, hf⟩ : ∃ f, Gd.find I 40 1 X Y = f := ⟨_, rfl⟩
  have hf' := hide hf
  clear hI hC hc hr
  go_enter Try.func53, Try.ntmps53
  go_wp2_with fail
  refine wp_region_grown (by kernel_rfl) (by kernel_rfl) ?_
  intro St hS W hJ hx
  have c6 : ∀ σ, (W σ).cell? ⟨B, 6, none⟩ = some (.slice (some ⟨gI, 0, none⟩) 40 cI) := fun σ => (grown_cell (hJ σ) B 6 lB (by simp)).trans b6
  have cu : ∀ σ, Calls Try.prog 58 #[.pointer (some ⟨gE, k * 11, none⟩)] (W σ) fun e w'' => e = .returned (.agg #[.int .i64 1, .int .i64 X, .int .i64 Y]) ∧ ∃ σ', w'' = W σ' := fun σ => calls_class hJ hx (under_any gE (k * 11) X Y (W σ) ((unhide hN').on (hJ σ)).e3 ((unhide hN').on (hJ σ)).e4 ((unhide hN').on (hJ σ)).lE)
  have ca : ∀ σ, Calls Try.prog 40 #[.slice (some ⟨gI, 0, none⟩) 40 cI, .agg #[.int .i64 1, .int .i64 X, .int .i64 Y]] (W σ) fun e w'' => e = .returned (.int .i64 f) ∧ ∃ σ', w'' = W σ' := fun σ => by
    have h := goodsAt_any gI 40 cI I 1 X Y (W σ) ((unhide hI').on (hJ σ))
    rw [hf] at h
    exact calls_class hJ hx h
  have hJ' := hide hJ
  clear hJ hx hf b4 b6 b7 e2 e3 e4
  repeat (go_big_quiet_step (first | (go_at_call 58; exact cu _) | (go_at_call 40; exact ca _)))
  refine wpQuiet_nil ?_
  rintro _ ⟨σ, rfl⟩
  obtain ⟨wq, hwq⟩ : ∃ wq, W σ = wq := ⟨_, rfl⟩
  have hgq := hide (unhide hJ' σ)
  rw [hwq] at hgq ⊢
  clear c6 cu ca hJ' hwq
  clear σ W hS St
  by_cases h5 : input = 5
  · have he := hide (show f = r by rw [← unhide hr', Gd.want, if_pos h5, unhide hf'])
    subst h5
    go_wp2
    go_ret
    exact ⟨ret_int (unhide he), unhide hgq⟩
  · by_cases h10 : input = 10
    · have he := unhide hr'
      rw [Gd.want, if_neg h5, if_pos h10] at he
      have cw := wareSays_any B gC gE gI cC cI k s X Y G c I wq ((unhide hN').on (unhide hgq)) (((unhide hC').kept (none_below (unhide hgq))).mono (unhide hgq).size) (unhide hc') ((unhide hI').on (unhide hgq))
      rw [he] at cw
      have cw' := hide cw
      subst h10
      clear h5 he cw
      go_wp2_with fail
      refine (unhide cw').mono ?_
      rintro e w1 ⟨rfl, hg1⟩
      have hg2 := hide (grown_trans (unhide hgq) hg1)
      clear hg1 cw'
      go_wp2
      go_ret
      exact ⟨rfl, unhide hg2⟩
    · by_cases h8 : input = 8
      · have he := unhide hr'
        rw [Gd.want, if_neg h5, if_neg h10, if_pos h8, unhide hf'] at he
        subst h8
        clear h5 h10
        by_cases hp : 0 ≤ f
        · rw [if_pos hp] at he
          have he' := hide he
          clear he
          go_wp2
          go_ret
          exact ⟨ret_int (unhide he'), unhide hgq⟩
        · rw [if_neg hp] at he
          have hp' : f < 0 := by omega
          have cc := fun x (hx : wq.grownBy x none) => carried_any gI 40 cI I (s : Int) 8 x ((unhide hI').on (grown_trans (unhide hgq) hx))
          rw [he] at cc
          have b6 := ((unhide hN').on (unhide hgq)).b6
          have e2 := ((unhide hN').on (unhide hgq)).e2
          have lB' := ((unhide hN').on (unhide hgq)).lB
          have lE' := ((unhide hN').on (unhide hgq)).lE
          clear he
          go_wp2_with fail
          refine wp_region_grown (by kernel_rfl) (by kernel_rfl) ?_
          intro St hS W hJ hx
          have c6 : ∀ σ, (W σ).cell? ⟨B, 6, none⟩ = some (.slice (some ⟨gI, 0, none⟩) 40 cI) := fun σ => (grown_cell (hJ σ) B 6 lB' (by simp)).trans b6
          have c2 : ∀ σ, (W σ).cell? ⟨gE, k * 11 + 2, none⟩ = some (.int .i64 (s : Int)) := fun σ => (grown_cell (hJ σ) gE _ lE' (by simp)).trans e2
          have ca : ∀ σ, Calls Try.prog 68 #[.slice (some ⟨gI, 0, none⟩) 40 cI, .int .i64 (s : Int), .int .i64 8] (W σ) fun e w'' => e = .returned (.int .i64 r) ∧ ∃ σ', w'' = W σ' := fun σ => calls_class hJ hx (cc (W σ) (hJ σ))
          have hJ' := hide hJ
          clear hJ hx b6 e2 cc
          repeat (go_big_quiet_step ((go_at_call 68; exact ca _)))
          refine wpQuiet_nil ?_
          rintro _ ⟨σ, rfl⟩
          obtain ⟨wz, hwz⟩ : ∃ wz, W σ = wz := ⟨_, rfl⟩
          have hgz := hide (grown_trans (unhide hgq) (unhide hJ' σ))
          rw [hwz] at hgz ⊢
          clear c6 c2 ca hJ' hwz
          clear σ W hS St
          go_wp2
          go_ret
          exact ⟨rfl, unhide hgz⟩
      · by_cases h6 : input = 6
        · have he := unhide hr'
          rw [Gd.want, if_neg h5, if_neg h10, if_neg h8, if_pos h6] at he
          subst h6
          clear h5 h10 h8
          have cc := fun x (hx : wq.grownBy x none) => carried_any gI 40 cI I (s : Int) 6 x ((unhide hI').on (grown_trans (unhide hgq) hx))
          rw [he] at cc
          have b6 := ((unhide hN').on (unhide hgq)).b6
          have e2 := ((unhide hN').on (unhide hgq)).e2
          have lB' := ((unhide hN').on (unhide hgq)).lB
          have lE' := ((unhide hN').on (unhide hgq)).lE
          clear he
          go_wp2_with fail
          refine wp_region_grown (by kernel_rfl) (by kernel_rfl) ?_
          intro St hS W hJ hx
          have c6 : ∀ σ, (W σ).cell? ⟨B, 6, none⟩ = some (.slice (some ⟨gI, 0, none⟩) 40 cI) := fun σ => (grown_cell (hJ σ) B 6 lB' (by simp)).trans b6
          have c2 : ∀ σ, (W σ).cell? ⟨gE, k * 11 + 2, none⟩ = some (.int .i64 (s : Int)) := fun σ => (grown_cell (hJ σ) gE _ lE' (by simp)).trans e2
          have ca : ∀ σ, Calls Try.prog 68 #[.slice (some ⟨gI, 0, none⟩) 40 cI, .int .i64 (s : Int), .int .i64 6] (W σ) fun e w'' => e = .returned (.int .i64 r) ∧ ∃ σ', w'' = W σ' := fun σ => calls_class hJ hx (cc (W σ) (hJ σ))
          have hJ' := hide hJ
          clear hJ hx b6 e2 cc
          repeat (go_big_quiet_step ((go_at_call 68; exact ca _)))
          refine wpQuiet_nil ?_
          rintro _ ⟨σ, rfl⟩
          obtain ⟨wz, hwz⟩ : ∃ wz, W σ = wz := ⟨_, rfl⟩
          have hgz := hide (grown_trans (unhide hgq) (unhide hJ' σ))
          rw [hwz] at hgz ⊢
          clear c6 c2 ca hJ' hwz
          clear σ W hS St
          go_wp2
          go_ret
          exact ⟨rfl, unhide hgz⟩
        · by_cases h7 : input = 7
          · have he := unhide hr'
            rw [Gd.want, if_neg h5, if_neg h10, if_neg h8, if_neg h6, if_pos h7] at he
            subst h7
            clear h5 h10 h8 h6
            have cc := fun x (hx : wq.grownBy x none) => carried_any gI 40 cI I (s : Int) 7 x ((unhide hI').on (grown_trans (unhide hgq) hx))
            rw [he] at cc
            have b6 := ((unhide hN').on (unhide hgq)).b6
            have e2 := ((unhide hN').on (unhide hgq)).e2
            have lB' := ((unhide hN').on (unhide hgq)).lB
            have lE' := ((unhide hN').on (unhide hgq)).lE
            clear he
            go_wp2_with fail
            refine wp_region_grown (by kernel_rfl) (by kernel_rfl) ?_
            intro St hS W hJ hx
            have c6 : ∀ σ, (W σ).cell? ⟨B, 6, none⟩ = some (.slice (some ⟨gI, 0, none⟩) 40 cI) := fun σ => (grown_cell (hJ σ) B 6 lB' (by simp)).trans b6
            have c2 : ∀ σ, (W σ).cell? ⟨gE, k * 11 + 2, none⟩ = some (.int .i64 (s : Int)) := fun σ => (grown_cell (hJ σ) gE _ lE' (by simp)).trans e2
            have ca : ∀ σ, Calls Try.prog 68 #[.slice (some ⟨gI, 0, none⟩) 40 cI, .int .i64 (s : Int), .int .i64 7] (W σ) fun e w'' => e = .returned (.int .i64 r) ∧ ∃ σ', w'' = W σ' := fun σ => calls_class hJ hx (cc (W σ) (hJ σ))
            have hJ' := hide hJ
            clear hJ hx b6 e2 cc
            repeat (go_big_quiet_step ((go_at_call 68; exact ca _)))
            refine wpQuiet_nil ?_
            rintro _ ⟨σ, rfl⟩
            obtain ⟨wz, hwz⟩ : ∃ wz, W σ = wz := ⟨_, rfl⟩
            have hgz := hide (grown_trans (unhide hgq) (unhide hJ' σ))
            rw [hwz] at hgz ⊢
            clear c6 c2 ca hJ' hwz
            clear σ W hS St
            go_wp2
            go_ret
            exact ⟨rfl, unhide hgz⟩
          · have he := unhide hr'
            rw [Gd.want, if_neg h5, if_neg h10, if_neg h8, if_neg h6, if_neg h7] at he
            have he' := hide he
            clear he
            go_wp2
            go_ret
            exact ⟨ret_int (unhide he'), unhide hgq⟩

end Go.Proofs.Ythngbjmiblbohaa
