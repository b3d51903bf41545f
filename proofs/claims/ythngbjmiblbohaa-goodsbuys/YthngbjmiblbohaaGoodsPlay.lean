/-
  The law's own world, whole.
  Whether an item may be where it is, and whether all may, in goods.
  Whether all items may be where they are, in goods: Check.
  The law's known world: a potion is taken up.
  Two worlds that hold the same are the same.
  A law's world, its hero and what an input does to it; lists that are found by hand.
-/
import Derived.Test.YthngbjmiblbohaaGoodsCast
import Derived.Test.YthngbjmiblbohaaGoodsLots
import Derived.Test.YthngbjmiblbohaaGoodsBag
import Derived.Test.YthngbjmiblbohaaGoodsApart
import Derived.Laws.BytesArg
import Derived.ChangeKeysEq
namespace Go.Proofs.Ythngbjmiblbohaa
open Go.RowKit

/-- What the law's World answers: a floor of the document, a hero on it, items that may be where they are, gold. -/
def Gd.Told (w : World) (seed fl seat at_ gold : Int) (nL : Nat) (M : Nat → Nat → Int) (e : Ending) (w' : World) : Prop :=
  ∃ (c : Nat → Int) (kc : Nat), Nv.Floor c ∧ kc < 384 ∧ Gr.walkB (c kc) = true ∧ (at_.tmod 3 = 0 → 0 ≤ Gr.find 384 c 5 → Gr.find 384 c 5 = (kc : Int)) ∧ Gd.Tells w (Gd.head seed fl) (Gd.give (fun _ => 0) (seat % 4).toNat (gold % 1000)) c (En.put (fun _ _ => 0) (at_ % 32).toNat (Gd.folk (seat % 4) kc (at_ % 20))) kc nL M e w'

theorem Gd.Begun.laid {w w0 x : World} {B gC gE gI : Nat} {seed fl : Int} {c : Nat → Int} (h : Gd.Begun w0 x B gC gE gI seed fl c) (hg : w.grownBy w0 none) (hs : w0.heap.size = w.heap.size + 1)
    (hr : Lie w0 w.heap.size 29 11 (fun j => #[.int .i64 0, .int .i64 0, .int .i64 0, .int .i64 0, .slice none 0 0, .slice none 0 0, .slice none 0 0, .int .i64 0, .int .i64 0, .int .i64 0, Value.int .i64 0][j]?.getD undef)) : Gd.Laid w x w.heap.size B gC gE gI (Gd.head seed fl) (fun _ => 0) c (fun _ _ => 0) (fun _ _ => 0) := by
  have h1 := h.lB
  have h2 := h.lC
  have h3 := h.lE
  have h4 := h.lI
  exact ⟨h.hold, rfl, by omega, by omega, by omega, by omega, hr.on h.grown, grown_trans hg h.grown⟩

set_option maxRecDepth 100000 in
set_option maxHeartbeats 12800000 in
theorem world_any (seed floor seat at_ gold : Int) (aL : Option Addr) (nL cL : Nat) (M : Nat → Nat → Int) (w : World) (hM : Gd.Some w aL (min nL 20) M) :
    Calls Try.prog 10 #[.int .i64 seed, .int .i64 floor, .int .i64 seat, .int .i64 at_, .slice aL nL cL, .int .i64 gold] w (Gd.Told w seed (1 + floor % 3) seat at_ gold nL M) := by
  have cf := hide (within7_any floor 3 (w.alloc (.cells #[.int .i64 0, .int .i64 0, .int .i64 0, .int .i64 0, .slice none 0 0, .slice none 0 0, .slice none 0 0, .int .i64 0, .int .i64 0, .int .i64 0, .int .i64 0] 29)) (by omega) (by omega))
  obtain ⟨fl, hfl⟩ : ∃ fl, floor % 3 = fl := ⟨_, rfl⟩
  have f0 : 0 ≤ fl := by omega
  have f3 : fl < 3 := by omega
  rw [hfl] at cf ⊢
  have hM' := hide hM
  clear hfl hM
  go_enter Try.func10, Try.ntmps10
  go_wp2_with fail
  refine (unhide cf).mono ?_
  rintro e w1 ⟨rfl, hw1⟩
  subst w1
  clear cf
  go_upto_region 2 with fail
  rename_i hKK
  have hK0 := hide hKK
  clear hKK
  have hr := hide (Arr.lit (heap_alloc_new w (.cells #[.int .i64 0, .int .i64 0, .int .i64 0, .int .i64 0, .slice none 0 0, .slice none 0 0, .slice none 0 0, .int .i64 0, .int .i64 0, .int .i64 0, .int .i64 0] 29))).lie
  have hg0 := hide (World.grownBy_alloc w (.cells #[.int .i64 0, .int .i64 0, .int .i64 0, .int .i64 0, .slice none 0 0, .slice none 0 0, .slice none 0 0, .int .i64 0, .int .i64 0, .int .i64 0, .int .i64 0] 29) none)
  have hs : Hid ((w.alloc (.cells #[.int .i64 0, .int .i64 0, .int .i64 0, .int .i64 0, .slice none 0 0, .slice none 0 0, .slice none 0 0, .int .i64 0, .int .i64 0, .int .i64 0, .int .i64 0] 29)).heap.size = w.heap.size + 1) := by
    show _ = _
    simp
  generalize w.alloc (.cells #[.int .i64 0, .int .i64 0, .int .i64 0, .int .i64 0, .slice none 0 0, .slice none 0 0, .slice none 0 0, .int .i64 0, .int .i64 0, .int .i64 0, .int .i64 0] 29) = w0 at hr hg0 hs ⊢
  refine wp_region_any (by kernel_rfl) ?_
  change wpAny _ _ _ _ _ _ _ (World.drew _)
  refine wpAny_take (i := 0) (v := ?_) rfl (by kernel_rfl) (by kernel_rfl) (by kernel_rfl) (fun _ _ _ h => h) (Or.inl ⟨by rfl, ?_⟩) ?_
  rotate_left
  · intro w
    go_simp
    with_reducible rfl
  refine wpAny_take (i := 1) (v := ?_) rfl (by kernel_rfl) (by kernel_rfl) (by kernel_rfl) (fun _ _ _ h => h) (Or.inl ⟨by rfl, ?_⟩) ?_
  rotate_left
  · intro w
    go_simp
    with_reducible rfl
  refine wpAny_take (i := 2) (v := ?_) rfl (by kernel_rfl) (by kernel_rfl) (by kernel_rfl) (fun _ _ _ h => h) (Or.inl ⟨by rfl, ?_⟩) ?_
  rotate_left
  · intro w
    go_simp
    with_reducible rfl
  refine wpAny_take (i := 3) (v := ?_) rfl (by kernel_rfl) (by kernel_rfl) (by kernel_rfl) (fun _ _ _ h => h) (Or.inl ⟨by rfl, ?_⟩) ?_
  rotate_left
  · intro w
    go_simp
    with_reducible rfl
  refine lots_N seed (1 + fl) (by omega) (by omega) w0 w0.drew (grown_drew1 (World.grownBy.refl _ _)) _ (fun _ d _ _ _ h => by cases d <;> exact h) _ _ _ _ _ _ _ _ _ _ _ _ _ _ _ _ _ _ _ _ _ _ _ _ _ _ _ _ _ _ _ _ _ _ _ _ _ _ _ _ _ _ _ _ _ _ _ _ _ _ _ _ _ _ _ _ _ _ _ _ _ _ _ _ _ _ _ _ _ _ _ _ _ _ _ _ _ _ _ _ _ _ _ _ _ _ _ _ _ _ _ _ _ _ _ _ _ _ _ _ _ _ _ _ _ _ _ _ _ _ _ _ _ _ _ _ _ _ _ _ _ _ _ _ _ _ _ _ _ _ _ _ _ _ _ _ _ _ _ _ _ _ _ _ _ _ _ _ _ _ _ _ _ _ _ _ _ _ _ _ _ _ _ _ _ _ _ _ _ _ _ _ _ _ _ _ _ _ _ _ _ _ _ _ _ _ _ _ _ _ _ _ _ _ _ _ _ _ _ _ _ _ _ _ _ _ _ _ _ _ _ _ _ _ _ _ _ _ _ _ ?_
  intro c B G gE gI w1 u13 u24 u25 u26 u27 u28 u29 u30 u31 u32 hu hF hBg
  subst hu
  exact unhide hK0 _ _ (world_open seat at_ gold (Gd.head seed (1 + fl)) c hF.five hF.some aL nL cL M w.heap.size B G gE gI w w1 (unhide hM') (hBg.laid (unhide hg0) (unhide hs) (unhide hr)) (Gd.Told w seed (1 + fl) seat at_ gold nL M) (fun kc h1 h2 h3 e w' ht => ⟨c, kc, hF, h1, h2, h3, ht⟩) _ _ _ _ _ _ _ _ _ _ _ _ _ _ _ _ _ _ _ _ _ _ _ _ _ _ _ _ _ _ _ _ _ _ _ _ _ _ _ _ _ _ _ _ _ _ _ _ _ _ _ _ _ _ _ _ _ _ _ _ _ _ _ _ _ _ _ _ _ _ _ _ _ _ _ _ _ _ _ _ _ _ _ _ _ _ _ _ _ _ _ _ _ _ _ _ _ _ _ _ _ _ _ _ _ _ _ _ _ _ _ _ _ _ _ _ _ _ _ _ _ _ _ _ _ _ _ _ _ _ _ _ _ _ _ _ _ _ _ _ _ _ _ _ _ _ _ _ _ _ _ _ _ _ _ _ _ _ _ _ _ _ _ _ _ _ _ _ _ _ _ _ _ _ _ _ _ _ _ _ _ _ _ _ _ _ _ _ _ _ _ _ _ _ _ _ _ _ _ _ _ _ _ _ _ _ _ _ _ _ _ _ _ _ _ _ _ _ _ _)

end Go.Proofs.Ythngbjmiblbohaa

namespace Go.Proofs.Ythngbjmiblbohaa
open Go.RowKit

/-- May an item be where it is? -/
def Gd.fitsB (c : Nat → Int) (k p a b : Int) : Bool :=
  decide (1 ≤ k ∧ k ≤ 4) && (if p = 1 then Gr.walkB (Gr.at 384 c a b) else if p = 2 then Gd.isSeat a && (decide (0 ≤ b) && (decide (b < 4) && decide (k ≠ 4)))
    else if p = 3 then Gd.isSeat a && (Gd.serves k 7 && decide (b = k - 2)) else if p = 4 then decide (0 ≤ a) && (decide (a < 3) && (decide (b = 0) && decide (k ≠ 4))) else false)

theorem Gd.serves_7 (k : Int) : Gd.serves k 7 = (decide (k = 2) || decide (k = 3)) := by
  unfold Gd.serves
  rw [if_neg (by decide), if_pos rfl]

theorem Gd.at_out {c : Nat → Int} {x y : Int} (h : Gr.inB x y = false) : Gr.at 384 c x y = 0 := by
  unfold Gr.at
  rw [if_neg (by rw [h]; simp)]

theorem Gd.fits_iff (c r : Nat → Int) : Gd.fitsB c (r 0) (r 1) (r 2) (r 3) = true ↔ Gd.Placed c r := by
  unfold Gd.fitsB Gd.Placed
  rw [Bool.and_eq_true, decide_eq_true_eq]
  constructor
  · rintro ⟨⟨h1, h2⟩, h⟩
    refine ⟨h1, h2, ?_⟩
    by_cases p1 : r 1 = 1
    · rw [if_pos p1] at h
      refine .inl ⟨p1, ?_, h⟩
      cases hin : Gr.inB (r 2) (r 3) with
      | true => rfl
      | false => rw [Gd.at_out hin] at h; simp [Gr.walkB] at h
    · rw [if_neg p1] at h
      by_cases p2 : r 1 = 2
      · rw [if_pos p2] at h
        simp only [Gd.isSeat, Bool.and_eq_true, decide_eq_true_eq] at h
        exact .inr (.inl ⟨p2, h.1.1, h.1.2, h.2.1, h.2.2.1, h.2.2.2⟩)
      · rw [if_neg p2] at h
        by_cases p3 : r 1 = 3
        · rw [if_pos p3] at h
          simp only [Gd.isSeat, Gd.serves_7, Bool.and_eq_true, Bool.or_eq_true, decide_eq_true_eq] at h
          obtain ⟨⟨s0, s1⟩, hs, hb⟩ := h
          exact .inr (.inr (.inl ⟨p3, s0, s1, by omega⟩))
        · rw [if_neg p3] at h
          by_cases p4 : r 1 = 4
          · rw [if_pos p4] at h
            simp only [Bool.and_eq_true, decide_eq_true_eq] at h
            exact .inr (.inr (.inr ⟨p4, h.1, h.2.1, h.2.2.1, h.2.2.2⟩))
          · rw [if_neg p4] at h
            cases h
  · rintro ⟨h1, h2, h | h | h | h⟩
    · exact ⟨⟨h1, h2⟩, by rw [if_pos h.1]; exact h.2.2⟩
    · refine ⟨⟨h1, h2⟩, ?_⟩
      rw [if_neg (by omega), if_pos h.1]
      simp only [Gd.isSeat, Bool.and_eq_true, decide_eq_true_eq]
      exact ⟨⟨h.2.1, h.2.2.1⟩, h.2.2.2.1, h.2.2.2.2.1, h.2.2.2.2.2⟩
    · refine ⟨⟨h1, h2⟩, ?_⟩
      rw [if_neg (by omega), if_neg (by omega), if_pos h.1]
      simp only [Gd.isSeat, Gd.serves_7, Bool.and_eq_true, Bool.or_eq_true, decide_eq_true_eq]
      exact ⟨⟨h.2.1, h.2.2.1⟩, by omega, by omega⟩
    · refine ⟨⟨h1, h2⟩, ?_⟩
      rw [if_neg (by omega), if_neg (by omega), if_neg (by omega), if_pos h.1]
      simp only [Bool.and_eq_true, decide_eq_true_eq]
      exact ⟨h.2.1, h.2.2.1, h.2.2.2.1, h.2.2.2.2⟩

theorem ret_says {w w' : World} {a b : Bool} (h : a = b) (hg : w.grownBy w' none) : Says w (.bool b) (.returned (.bool a)) w' := ⟨ret_bool h, hg⟩

set_option maxHeartbeats 3200000 in
theorem fits_any (gC cC : Nat) (c : Nat → Int) (k p a b : Int) (w : World) (hC : Vec w.heap.size w (some ⟨gC, 0, none⟩) 384 (Byts c)) (hc : ∀ i, 0 ≤ c i ∧ c i ≤ 255) :
    Calls Try.prog 39 #[.slice (some ⟨gC, 0, none⟩) 384 cC, .agg #[.int .i64 k, .int .i64 p, .int .i64 a, .int .i64 b]] w (Says w (.bool (Gd.fitsB c k p a b))) := by
  obtain ⟨r, hr⟩ : ∃ r, Gd.fitsB c k p a b = r := ⟨_, rfl⟩
  rw [hr]
  have hr' := hide hr
  have hg := hide (fun (o1 : Obj) => World.grownBy_alloc w o1 none)
  have hC' := hide hC
  have hc' := hide hc
  clear hr hC hc
  by_cases hk1 : 1 ≤ k
  · by_cases hk4 : k ≤ 4
    · have ek : Hid (decide (1 ≤ k ∧ k ≤ 4) = true) := decide_eq_true ⟨hk1, hk4⟩
      have nk1 : ¬ k < 1 := by omega
      have nk4 : ¬ k > 4 := by omega
      by_cases p1 : p = 1
      · subst p1
        have he := unhide hr'
        unfold Gd.fitsB at he
        rw [unhide ek, Bool.true_and, if_pos rfl] at he
        have he' := hide he
        clear he
        have cA : Hid (∀ o : Obj, Calls Try.prog 61 #[.slice (some ⟨gC, 0, none⟩) 384 cC, .int .i64 a, .int .i64 b] (w.alloc o) fun e w' => e = .returned (.int .i64 (Gr.at 384 c a b)) ∧ w' = w.alloc o) := fun o => at_any w.heap.size (some ⟨gC, 0, none⟩) 384 cC c a b (w.alloc o) ((unhide hC').kept (none_below (World.grownBy_alloc _ _ _))) (unhide hc')
        obtain ⟨A, hA⟩ : ∃ A, Gr.at 384 c a b = A := ⟨_, rfl⟩
        rw [hA] at cA he'
        clear hA
        go_enter Try.func39, Try.ntmps39
        go_wp2_with fail
        refine (unhide cA _).mono ?_
        rintro e w' ⟨rfl, hw⟩
        subst w'
        go_wp2_with fail
        refine (walk_any A _).mono ?_
        rintro e w' ⟨rfl, hw⟩
        subst w'
        go_wp2
        go_ret
        exact ret_says (unhide he') (unhide hg _)
      · by_cases p2 : p = 2
        · subst p2
          have he := unhide hr'
          unfold Gd.fitsB at he
          rw [unhide ek, Bool.true_and, if_neg (by decide), if_pos rfl] at he
          have cs := fun wx => isSeat_any a wx
          obtain ⟨S, hS⟩ : ∃ S, Gd.isSeat a = S := ⟨_, rfl⟩
          rw [hS] at he cs
          have cs' := hide cs
          clear cs hS p1
          cases S with
          | false =>
            rw [Bool.false_and] at he
            have he' := hide he
            clear he
            go_enter Try.func39, Try.ntmps39
            go_wp2_with fail
            refine (unhide cs' _).mono ?_
            rintro e w' ⟨rfl, hw⟩
            subst w'
            go_wp2
            go_ret
            exact ret_says (unhide he') (unhide hg _)
          | true =>
            rw [Bool.true_and] at he
            have he' := hide he
            clear he
            by_cases b0 : 0 ≤ b
            · by_cases b4 : b < 4
              · by_cases k4 : k = 4
                · have hf := hide (show false = r by rw [← unhide he']; simp [k4])
                  subst k4
                  go_enter Try.func39, Try.ntmps39
                  go_wp2_with fail
                  refine (unhide cs' _).mono ?_
                  rintro e w' ⟨rfl, hw⟩
                  subst w'
                  go_wp2
                  go_ret
                  exact ret_says (unhide hf) (unhide hg _)
                · have hf := hide (show true = r by rw [← unhide he']; simp [k4, b0, b4])
                  have k4' : (k == 4) = false := by simp [k4]
                  go_enter Try.func39, Try.ntmps39
                  go_wp2_with fail
                  refine (unhide cs' _).mono ?_
                  rintro e w' ⟨rfl, hw⟩
                  subst w'
                  go_wp2
                  go_ret
                  exact ret_says (by rw [← unhide hf]; simp [k4]) (unhide hg _)
              · have hf := hide (show false = r by rw [← unhide he']; simp [b4])
                go_enter Try.func39, Try.ntmps39
                go_wp2_with fail
                refine (unhide cs' _).mono ?_
                rintro e w' ⟨rfl, hw⟩
                subst w'
                go_wp2
                go_ret
                exact ret_says (unhide hf) (unhide hg _)
            · have hf := hide (show false = r by rw [← unhide he']; simp [b0])
              go_enter Try.func39, Try.ntmps39
              go_wp2_with fail
              refine (unhide cs' _).mono ?_
              rintro e w' ⟨rfl, hw⟩
              subst w'
              go_wp2
              go_ret
              exact ret_says (unhide hf) (unhide hg _)
        · by_cases p3 : p = 3
          · subst p3
            have he := unhide hr'
            unfold Gd.fitsB at he
            rw [unhide ek, Bool.true_and, if_neg (by decide), if_neg (by decide), if_pos rfl] at he
            have cs0 := fun wx => isSeat_any a wx
            have cv0 := fun wx => serves_any k 7 wx
            obtain ⟨S, hS⟩ : ∃ S, Gd.isSeat a = S := ⟨_, rfl⟩
            obtain ⟨V, hV⟩ : ∃ V, Gd.serves k 7 = V := ⟨_, rfl⟩
            rw [hS, hV] at he
            rw [hS] at cs0
            rw [hV] at cv0
            have cs0' := hide cs0
            have cv0' := hide cv0
            have he' := hide he
            have hcmp : ∀ wx : World, (binOp .eql 66 (.agg #[.int .i64 3, .int .i64 a, .int .i64 b]) (.agg #[.int .i64 3, .int .i64 a, .int .i64 (k - 2)])).run Try.prog wx = .ok (.bool (decide (b = k - 2))) wx := fun wx => by rw [run_eq_place]; simp
            obtain ⟨D, hD⟩ : ∃ D, decide (b = k - 2) = D := ⟨_, rfl⟩
            rw [hD] at hcmp
            have hD' := hide hD
            have k0 : 0 ≤ k := by omega
            have k100 : k ≤ 100 := by omega
            clear he cs0 cv0 hS hV hD p1 p2
            go_enter Try.func39, Try.ntmps39
            go_wp2_with fail
            obtain ⟨w1, hw1⟩ : ∃ w1, w.alloc (.cells #[.int .i64 k, .int .i64 3, .int .i64 a, .int .i64 b] 38) = w1 := ⟨_, rfl⟩
            have hnew := fun j (hj : j < 4) => (Arr.lit (heap_alloc_new w (.cells #[.int .i64 k, .int .i64 3, .int .i64 a, .int .i64 b] 38))).cell (i := j) hj
            have hg1 := hide (show w.grownBy w1 none by rw [← hw1]; exact World.grownBy_alloc _ _ _)
            have hl1 : w.heap.size < w1.heap.size := by rw [← hw1]; simp
            rw [hw1] at hnew ⊢
            clear hw1
            refine wp_region_grown (by kernel_rfl) (by kernel_rfl) ?_
            intro St hN W hI hx
            have c0 : ∀ σ, (W σ).cell? ⟨w.heap.size, 0, none⟩ = some (.int .i64 k) := fun σ => (grown_cell (hI σ) _ 0 hl1 (by simp)).trans (hnew 0 (by omega))
            have c1 : ∀ σ, (W σ).cell? ⟨w.heap.size, 1, none⟩ = some (.int .i64 3) := fun σ => (grown_cell (hI σ) _ 1 hl1 (by simp)).trans (hnew 1 (by omega))
            have c2 : ∀ σ, (W σ).cell? ⟨w.heap.size, 2, none⟩ = some (.int .i64 a) := fun σ => (grown_cell (hI σ) _ 2 hl1 (by simp)).trans (hnew 2 (by omega))
            have c3 : ∀ σ, (W σ).cell? ⟨w.heap.size, 3, none⟩ = some (.int .i64 b) := fun σ => (grown_cell (hI σ) _ 3 hl1 (by simp)).trans (hnew 3 (by omega))
            have cs : ∀ σ, Calls Try.prog 31 #[.int .i64 a] (W σ) fun e w'' => e = .returned (.bool S) ∧ ∃ σ', w'' = W σ' := fun σ => (unhide cs0' (W σ)).mono fun e w'' ⟨h1, h2⟩ => ⟨h1, σ, h2⟩
            have cv : ∀ σ, Calls Try.prog 62 #[.int .i64 k, .int .i64 7] (W σ) fun e w'' => e = .returned (.bool V) ∧ ∃ σ', w'' = W σ' := fun σ => (unhide cv0' (W σ)).mono fun e w'' ⟨h1, h2⟩ => ⟨h1, σ, h2⟩
            have cp : ∀ σ, Calls Try.prog 41 #[.agg #[.int .i64 k, .int .i64 3, .int .i64 a, .int .i64 b]] (W σ) fun e w'' => e = .returned (.agg #[.int .i64 3, .int .i64 a, .int .i64 b]) ∧ ∃ σ', w'' = W σ' := fun σ => calls_class hI hx (placeOf_any _ _ _ _ _)
            have cw : ∀ σ, Calls Try.prog 63 #[.int .i64 a, .int .i64 k] (W σ) fun e w'' => e = .returned (.agg #[.int .i64 3, .int .i64 a, .int .i64 (k - 2)]) ∧ ∃ σ', w'' = W σ' := fun σ => calls_class hI hx (wornBy_any a k k0 k100 _)
            have hI2 := hide hI
            clear hI hx hnew hl1 k0 k100
            cases S with
            | false =>
              repeat (go_big_quiet_step (first | (go_at_call 31; exact cs _) | (go_at_call 62; exact cv _) | (go_at_call 41; exact cp _) | (go_at_call 63; exact cw _)))
              refine wpQuiet_nil ?_
              rintro _ ⟨σ, rfl⟩
              obtain ⟨wq, hwq⟩ : ∃ wq, W σ = wq := ⟨_, rfl⟩
              have hgq := hide (grown_trans (unhide hg1) (unhide hI2 σ))
              rw [hwq] at hgq ⊢
              have hf := hide (show false = r by rw [← unhide he']; simp)
              clear c0 c1 c2 c3 cs cv cp cw hI2 hwq hcmp
              clear σ W hN St
              go_wp2
              go_ret
              exact ret_says (unhide hf) (unhide hgq)
            | true =>
              cases V with
              | false =>
                repeat (go_big_quiet_step (first | (go_at_call 31; exact cs _) | (go_at_call 62; exact cv _) | (go_at_call 41; exact cp _) | (go_at_call 63; exact cw _)))
                refine wpQuiet_nil ?_
                rintro _ ⟨σ, rfl⟩
                obtain ⟨wq, hwq⟩ : ∃ wq, W σ = wq := ⟨_, rfl⟩
                have hgq := hide (grown_trans (unhide hg1) (unhide hI2 σ))
                rw [hwq] at hgq ⊢
                have hf := hide (show false = r by rw [← unhide he']; simp)
                clear c0 c1 c2 c3 cs cv cp cw hI2 hwq hcmp
                clear σ W hN St
                go_wp2
                go_ret
                exact ret_says (unhide hf) (unhide hgq)
              | true =>
                repeat (go_big_quiet_step (first | (go_at_call 31; exact cs _) | (go_at_call 62; exact cv _) | (go_at_call 41; exact cp _) | (go_at_call 63; exact cw _)))
                refine wpQuiet_nil ?_
                rintro _ ⟨σ, rfl⟩
                obtain ⟨wq, hwq⟩ : ∃ wq, W σ = wq := ⟨_, rfl⟩
                have hgq := hide (grown_trans (unhide hg1) (unhide hI2 σ))
                rw [hwq] at hgq ⊢
                have hf := hide (show D = r by rw [← unhide he', unhide hD']; simp)
                clear c0 c1 c2 c3 cs cv cp cw hI2 hwq hcmp
                clear σ W hN St
                go_wp2
                go_ret
                exact ret_says (unhide hf) (unhide hgq)
          · by_cases p4 : p = 4
            · subst p4
              have he := unhide hr'
              unfold Gd.fitsB at he
              rw [unhide ek, Bool.true_and, if_neg (by decide), if_neg (by decide), if_neg (by decide), if_pos rfl] at he
              have he' := hide he
              clear he p1 p2 p3
              by_cases a0 : 0 ≤ a
              · by_cases a3 : a < 3
                · by_cases b0 : b = 0
                  · by_cases k4 : k = 4
                    · have hf := hide (show false = r by rw [← unhide he']; simp [k4])
                      subst k4
                      go_enter Try.func39, Try.ntmps39
                      go_wp2
                      go_ret
                      exact ret_says (unhide hf) (unhide hg _)
                    · have hf := hide (show true = r by rw [← unhide he']; simp [k4, a0, a3, b0])
                      have k4' : (k == 4) = false := by simp [k4]
                      subst b0
                      go_enter Try.func39, Try.ntmps39
                      go_wp2
                      go_ret
                      exact ret_says (by rw [← unhide hf]; simp [k4]) (unhide hg _)
                  · have hf := hide (show false = r by rw [← unhide he']; simp [b0])
                    have b0' : (b == 0) = false := by simp [b0]
                    go_enter Try.func39, Try.ntmps39
                    go_wp2
                    go_ret
                    exact ret_says (unhide hf) (unhide hg _)
                · have hf := hide (show false = r by rw [← unhide he']; simp [a3])
                  go_enter Try.func39, Try.ntmps39
                  go_wp2
                  go_ret
                  exact ret_says (unhide hf) (unhide hg _)
              · have hf := hide (show false = r by rw [← unhide he']; simp [a0])
                go_enter Try.func39, Try.ntmps39
                go_wp2
                go_ret
                exact ret_says (unhide hf) (unhide hg _)
            · have he := unhide hr'
              unfold Gd.fitsB at he
              rw [unhide ek, Bool.true_and, if_neg p1, if_neg p2, if_neg p3, if_neg p4] at he
              have he' := hide he
              clear he
              go_enter Try.func39, Try.ntmps39
              go_wp2
              go_ret
              exact ret_says (unhide he') (unhide hg _)
    · have he := unhide hr'
      unfold Gd.fitsB at he
      rw [decide_eq_false (show ¬ (1 ≤ k ∧ k ≤ 4) by omega), Bool.false_and] at he
      have he' := hide he
      have nk1 : ¬ k < 1 := by omega
      have nk4 : k > 4 := by omega
      clear he
      go_enter Try.func39, Try.ntmps39
      go_wp2
      go_ret
      exact ret_says (unhide he') (unhide hg _)
  · have he := unhide hr'
    unfold Gd.fitsB at he
    rw [decide_eq_false (show ¬ (1 ≤ k ∧ k ≤ 4) by omega), Bool.false_and] at he
    have he' := hide he
    have nk1 : k < 1 := by omega
    clear he
    go_enter Try.func39, Try.ntmps39
    go_wp2
    go_ret
    exact ret_says (unhide he') (unhide hg _)

end Go.Proofs.Ythngbjmiblbohaa

namespace Go.Proofs.Ythngbjmiblbohaa
open Go.RowKit

/-- An item is gone, or it may be where it is, and none below is there. -/
def Gd.good (c : Nat → Int) (I : Nat → Nat → Int) (j : Nat) : Prop := Gd.zeroB (I j 0) (I j 1) (I j 2) (I j 3) = true ∨ (Gd.fitsB c (I j 0) (I j 1) (I j 2) (I j 3) = true ∧ Gd.find I 40 (I j 1) (I j 2) (I j 3) = (j : Int))

theorem Gd.zero_iff (r : Nat → Int) : Gd.zeroB (r 0) (r 1) (r 2) (r 3) = true ↔ Gd.Zero r := by
  unfold Gd.zeroB Gd.Zero
  rw [decide_eq_true_eq]

theorem Gd.ok_good {c : Nat → Int} {I : Nat → Nat → Int} (h : Gd.Ok c 40 I) {k : Nat} (hk : k < 40) : Gd.good c I k := by
  rcases h.each k hk with hz | hp
  · exact .inl ((Gd.zero_iff (I k)).2 hz)
  · refine .inr ⟨(Gd.fits_iff c (I k)).2 hp, ?_⟩
    rcases Gd.find_cases I 40 (I k 1) (I k 2) (I k 3) with ⟨_, hno⟩ | ⟨m, hm, e, h1, h2, h3, _⟩
    · exact absurd ⟨rfl, rfl, rfl⟩ (hno k hk)
    · by_cases em : m = k
      · rw [e, em]
      · exact absurd (⟨h1, h2, h3⟩ : Gd.Share (I m) (I k)) (h.one k m hk hm (fun e => em e.symm) hp.where_ne)

theorem Gd.good_ok {c : Nat → Int} {I : Nat → Nat → Int} (h : ∀ k, k < 40 → Gd.good c I k) : Gd.Ok c 40 I := by
  refine ⟨fun i hi => ?_, fun i k hi hk hik hw hs => ?_⟩
  · rcases h i hi with hz | ⟨hp, _⟩
    · exact .inl ((Gd.zero_iff (I i)).1 hz)
    · exact .inr ((Gd.fits_iff c (I i)).1 hp)
  · have fi : Gd.find I 40 (I i 1) (I i 2) (I i 3) = (i : Int) := by
      rcases h i hi with hz | ⟨_, hf⟩
      · exact absurd ((Gd.zero_iff (I i)).1 hz).2.1 hw
      · exact hf
    have fk : Gd.find I 40 (I k 1) (I k 2) (I k 3) = (k : Int) := by
      rcases h k hk with hz | ⟨_, hf⟩
      · exact absurd (hs.1 ▸ ((Gd.zero_iff (I k)).1 hz).2.1) hw
      · exact hf
    rw [hs.1, hs.2.1, hs.2.2, fi] at fk
    omega

/-- A call tells a truth; nothing that was there has turned. -/
def Tells7 (w : World) (p : Prop) (e : Ending) (w' : World) : Prop := ∃ r : Bool, e = .returned (.bool r) ∧ (r = true ↔ p) ∧ w.grownBy w' none

set_option maxHeartbeats 6400000 in
theorem check_any (s g c : Nat → Int) (E I : Nat → Nat → Int) (gC gE gI cC cE cI : Nat) (w : World) (hL : Gd.Lists w gC gE gI c E I) (hc : ∀ i, 0 ≤ c i ∧ c i ≤ 255) :
    Calls Try.prog 16 #[.agg (Gd.world s gC gE gI cC cE cI g)] w (Tells7 w (Gd.Ok c 40 I)) := by
  obtain ⟨w0, hw0⟩ : ∃ w0, w0 = w.alloc (.cells (Gd.world s gC gE gI cC cE cI g) 29) := ⟨_, rfl⟩
  have hbox : Lie w0 w.heap.size 29 11 (Gd.box s gC gE gI cC cE cI g) := by rw [hw0]; exact (Arr.world (heap_alloc_new w _)).lie
  have hg0 : w.grownBy w0 none := by rw [hw0]; exact World.grownBy_alloc _ _ _
  have hL0 := hide (hL.on hg0)
  obtain ⟨B, hB⟩ : ∃ B, w.heap.size = B := ⟨_, rfl⟩
  rw [hB] at hbox
  have hbox' := hide hbox
  have hg0' := hide hg0
  have hc' := hide hc
  obtain ⟨_, _, _, _, b4, _, b6, _⟩ := hbox.eleven
  have hlB := hbox.lt
  clear hL hc hbox hg0
  unfold Gd.world at hw0 ⊢
  go_enter Try.func16, Try.ntmps16
  go_upto_region 1 with fail
  rw [← hw0]
  clear hw0 hB
  go_wp2_with fail
  go_loopw [12] (fun i wr => ∃ k : Nat, k ≤ 40 ∧ i = .int .i64 (k : Int) ∧ (∀ j, j < k → Gd.good c I j) ∧ w0.grownBy wr none) (fun i _ => 200 - (intOf i).toNat)
  case atStart => exact ⟨0, by omega, rfl, fun j hj => by omega, World.grownBy.refl _ _⟩
  case round =>
    obtain ⟨k, hk, rfl, hno, hgr⟩ := hrel
    have hno' := hide hno
    have hgr' := hide hgr
    clear hno hgr b4 b6
    by_cases hlt : k < 40
    · obtain ⟨u0, u1, u2, u3⟩ := ((unhide hL0).on (unhide hgr')).its.row hlt
      have hlt' : (k : Int) < 40 := by omega
      have HL := hide hlt
      clear hlt
      go_wp2_with fail
      obtain ⟨wb, hwb⟩ : ∃ wb, wr.alloc (.cells #[.int .i64 (I k 0), .int .i64 (I k 1), .int .i64 (I k 2), .int .i64 (I k 3)] 38) = wb := ⟨_, rfl⟩
      have hga : wr.grownBy wb none := by rw [← hwb]; exact World.grownBy_alloc _ _ _
      have hnew := (Arr.lit (heap_alloc_new wr (.cells #[.int .i64 (I k 0), .int .i64 (I k 1), .int .i64 (I k 2), .int .i64 (I k 3)] 38))).lie
      rw [hwb] at hnew
      have hgb := hide (grown_trans (unhide hgr') hga)
      have hnew' := hide hnew
      obtain ⟨P, hP⟩ : ∃ P, wr.heap.size = P := ⟨_, rfl⟩
      rw [hP] at hnew'
      clear hnew hga
      have cg := isGone_any (I k 0) (I k 1) (I k 2) (I k 3) wb
      have hgd : Hid (Gd.good c I k ↔ (Gd.zeroB (I k 0) (I k 1) (I k 2) (I k 3) = true ∨ (Gd.fitsB c (I k 0) (I k 1) (I k 2) (I k 3) = true ∧ Gd.find I 40 (I k 1) (I k 2) (I k 3) = (k : Int)))) := Iff.rfl
      obtain ⟨z, hz⟩ : ∃ z, Gd.zeroB (I k 0) (I k 1) (I k 2) (I k 3) = z := ⟨_, rfl⟩
      rw [hz] at cg hgd
      have cg' := hide cg
      rw [hwb, hP]
      clear cg hz hwb hP u0 u1 u2 u3
      refine (unhide cg').mono ?_
      rintro e w1 ⟨rfl, hg1⟩
      have hg1' := hide (grown_trans (unhide hgb) hg1)
      have hn1 := hide ((unhide hnew').on hg1)
      clear cg' hg1 hgb hnew'
      cases z with
      | true =>
        have hq := hide ((unhide hgd).2 (.inl rfl))
        clear hgd
        go_wp2
        go_roundw
        case rel => exact ⟨k + 1, by have := unhide HL; omega, by go_num, fun j hj => by
          by_cases e : j = k
          · rw [e]; exact unhide hq
          · exact unhide hno' j (by omega), unhide hg1'⟩
        case measure => simp [intOf]; omega
      | false =>
        have b4 := ((unhide hbox').on (unhide hg1')).eleven.2.2.2.2.1
        have b6 := ((unhide hbox').on (unhide hg1')).eleven.2.2.2.2.2.2.1
        have lB1 := Nat.lt_of_lt_of_le hlB (unhide hg1').size
        have lP1 := (unhide hn1).lt
        have cf0 := fun (x : World) (hx : w1.grownBy x none) => fits_any gC cC c (I k 0) (I k 1) (I k 2) (I k 3) x ((unhide hL0).on (grown_trans (unhide hg1') hx)).vec (unhide hc')
        have ca0 := fun (x : World) (hx : w1.grownBy x none) => goodsAt_any gI 40 cI I (I k 1) (I k 2) (I k 3) x ((unhide hL0).on (grown_trans (unhide hg1') hx)).its
        obtain ⟨f, hf⟩ : ∃ f, Gd.find I 40 (I k 1) (I k 2) (I k 3) = f := ⟨_, rfl⟩
        obtain ⟨V, hV⟩ : ∃ V, Gd.fitsB c (I k 0) (I k 1) (I k 2) (I k 3) = V := ⟨_, rfl⟩
        rw [hf] at ca0 hgd
        rw [hV] at cf0 hgd
        have ca0' := hide ca0
        have cf0' := hide cf0
        clear ca0 cf0 hf hV
        go_wp2_with fail
        refine wp_region_grown (by kernel_rfl) (by kernel_rfl) ?_
        intro St hN W hI hx
        have c0 : ∀ σ, (W σ).cell? ⟨P, 0, none⟩ = some (.int .i64 (I k 0)) := fun σ => (grown_cell (hI σ) _ 0 lP1 (by simp)).trans ((unhide hn1).cell (c := 0) (by simp))
        have c1 : ∀ σ, (W σ).cell? ⟨P, 1, none⟩ = some (.int .i64 (I k 1)) := fun σ => (grown_cell (hI σ) _ 1 lP1 (by simp)).trans ((unhide hn1).cell (c := 1) (by simp))
        have c2 : ∀ σ, (W σ).cell? ⟨P, 2, none⟩ = some (.int .i64 (I k 2)) := fun σ => (grown_cell (hI σ) _ 2 lP1 (by simp)).trans ((unhide hn1).cell (c := 2) (by simp))
        have c3 : ∀ σ, (W σ).cell? ⟨P, 3, none⟩ = some (.int .i64 (I k 3)) := fun σ => (grown_cell (hI σ) _ 3 lP1 (by simp)).trans ((unhide hn1).cell (c := 3) (by simp))
        have d4 : ∀ σ, (W σ).cell? ⟨B, 4, none⟩ = some (.slice (some ⟨gC, 0, none⟩) 384 cC) := fun σ => (grown_cell (hI σ) _ 4 lB1 (by simp)).trans b4
        have d6 : ∀ σ, (W σ).cell? ⟨B, 6, none⟩ = some (.slice (some ⟨gI, 0, none⟩) 40 cI) := fun σ => (grown_cell (hI σ) _ 6 lB1 (by simp)).trans b6
        have cf : ∀ σ, Calls Try.prog 39 #[.slice (some ⟨gC, 0, none⟩) 384 cC, .agg #[.int .i64 (I k 0), .int .i64 (I k 1), .int .i64 (I k 2), .int .i64 (I k 3)]] (W σ) fun e w'' => e = .returned (.bool V) ∧ ∃ σ', w'' = W σ' := fun σ => calls_class hI hx (unhide cf0' _ (hI σ))
        have cp : ∀ σ, Calls Try.prog 41 #[.agg #[.int .i64 (I k 0), .int .i64 (I k 1), .int .i64 (I k 2), .int .i64 (I k 3)]] (W σ) fun e w'' => e = .returned (.agg #[.int .i64 (I k 1), .int .i64 (I k 2), .int .i64 (I k 3)]) ∧ ∃ σ', w'' = W σ' := fun σ => calls_class hI hx (placeOf_any _ _ _ _ _)
        have ca : ∀ σ, Calls Try.prog 40 #[.slice (some ⟨gI, 0, none⟩) 40 cI, .agg #[.int .i64 (I k 1), .int .i64 (I k 2), .int .i64 (I k 3)]] (W σ) fun e w'' => e = .returned (.int .i64 f) ∧ ∃ σ', w'' = W σ' := fun σ => calls_class hI hx (unhide ca0' _ (hI σ))
        have hI2 := hide hI
        clear hI hx b4 b6 lB1 lP1 ca0' cf0' hn1
        cases V with
        | false =>
          repeat (go_big_quiet_step (first | (go_at_call 39; exact cf _) | (go_at_call 41; exact cp _) | (go_at_call 40; exact ca _)))
          refine wpQuiet_nil ?_
          rintro _ ⟨σ, rfl⟩
          obtain ⟨wq, hwq⟩ : ∃ wq, W σ = wq := ⟨_, rfl⟩
          have hgq := hide (grown_trans (unhide hg1') (unhide hI2 σ))
          rw [hwq] at hgq ⊢
          clear c0 c1 c2 c3 d4 d6 cf cp ca hI2 hwq
          clear σ W hN St
          have hnok := hide (show ¬ Gd.Ok c 40 I from fun h => by
            have hg := Gd.ok_good h (unhide HL)
            rw [unhide hgd] at hg
            simp at hg)
          have hfin := hide (grown_trans (unhide hg0') (unhide hgq))
          go_wp2
          go_ret
          exact ⟨false, rfl, ⟨(fun h => absurd h (by simp)), (fun h => absurd h (unhide hnok))⟩, unhide hfin⟩
        | true =>
          by_cases hfk : f = (k : Int)
          · subst hfk
            have hq := hide ((unhide hgd).2 (.inr ⟨rfl, rfl⟩))
            repeat (go_big_quiet_step (first | (go_at_call 39; exact cf _) | (go_at_call 41; exact cp _) | (go_at_call 40; exact ca _)))
            refine wpQuiet_nil ?_
            rintro _ ⟨σ, rfl⟩
            obtain ⟨wq, hwq⟩ : ∃ wq, W σ = wq := ⟨_, rfl⟩
            have hgq := hide (grown_trans (unhide hg1') (unhide hI2 σ))
            rw [hwq] at hgq ⊢
            clear c0 c1 c2 c3 d4 d6 cf cp ca hI2 hwq
            clear σ W hN St
            go_wp2
            go_roundw
            case rel => exact ⟨k + 1, by have := unhide HL; omega, by go_num, fun j hj => by
              by_cases e : j = k
              · rw [e]; exact unhide hq
              · exact unhide hno' j (by omega), unhide hgq⟩
            case measure => simp [intOf]; omega
          · have hfk' : (f == (k : Int)) = false := by simp [hfk]
            repeat (go_big_quiet_step (first | (go_at_call 39; exact cf _) | (go_at_call 41; exact cp _) | (go_at_call 40; exact ca _)))
            refine wpQuiet_nil ?_
            rintro _ ⟨σ, rfl⟩
            obtain ⟨wq, hwq⟩ : ∃ wq, W σ = wq := ⟨_, rfl⟩
            have hgq := hide (grown_trans (unhide hg1') (unhide hI2 σ))
            rw [hwq] at hgq ⊢
            clear c0 c1 c2 c3 d4 d6 cf cp ca hI2 hwq
            clear σ W hN St
            have hnok := hide (show ¬ Gd.Ok c 40 I from fun h => by
              have hg := Gd.ok_good h (unhide HL)
              rw [unhide hgd] at hg
              simp at hg; exact hfk hg)
            have hfin := hide (grown_trans (unhide hg0') (unhide hgq))
            go_wp2
            go_ret
            exact ⟨false, rfl, ⟨(fun h => absurd h (by simp)), (fun h => absurd h (unhide hnok))⟩, unhide hfin⟩
    · have hge : ¬ (k : Int) < 40 := by omega
      have he := hide (Gd.good_ok (fun j hj => unhide hno' j (by omega)))
      have hfin := hide (grown_trans (unhide hg0') (unhide hgr'))
      go_wp2
      go_ret
      exact ⟨true, rfl, ⟨fun _ => unhide he, fun _ => rfl⟩, unhide hfin⟩

end Go.Proofs.Ythngbjmiblbohaa

namespace Go.Proofs.Ythngbjmiblbohaa
open Go.RowKit

theorem Gd.folk_hero {r : Nat} (hr : r < 32) (st : Int) (kc : Nat) (h : Int) : Gd.hero (En.put (fun _ _ => 0) r (Gd.folk st kc h)) st = (r : Int) := by
  unfold Gd.hero
  refine En.first_hit (fun j hj => ?_) ?_ hr
  · simp [En.heroQ, En.put_other (show j ≠ r by omega)]
  · simp [En.heroQ, En.put_same, Gd.folk]

theorem Gd.folk_none {r : Nat} {st seat : Int} {kc : Nat} {h : Int} (hs : seat ≠ st) : Gd.hero (En.put (fun _ _ => 0) r (Gd.folk st kc h)) seat = -1 := by
  unfold Gd.hero
  refine En.first_none fun j hj => ?_
  by_cases e : j = r
  · subst e
    simp [En.heroQ, En.put_same, Gd.folk, hs.symm]
  · simp [En.heroQ, En.put_other e]

theorem Gd.told_fine {c : Nat → Int} {I : Nat → Nat → Int} {sn r : Nat} {gd st h : Int} {kc : Nat} (hF : Nv.Floor c) (hOk : Gd.Ok c 40 I) (g0 : 0 ≤ gd) (g9 : gd ≤ 999) (h0 : 0 ≤ h) (h9 : h < 20) : Gd.Fine c (Gd.give (fun _ => 0) sn gd) (En.put (fun _ _ => 0) r (Gd.folk st kc h)) I := by
  refine ⟨fun i => ⟨(hF.five i).1, by have := (hF.five i).2; omega⟩, fun t _ => ?_, fun k _ => ?_, hOk⟩
  · unfold Gd.give
    by_cases e : t = sn
    · rw [if_pos e]; omega
    · rw [if_neg e]
      exact ⟨Int.le_refl _, by show (0 : Int) ≤ 999; omega⟩
  · by_cases e : k = r
    · subst e
      rw [En.put_same]
      show 0 ≤ 1 + h ∧ 1 + h ≤ 1000
      omega
    · rw [En.put_other e]
      exact ⟨Int.le_refl _, by show (0 : Int) ≤ 1000; omega⟩

theorem Gd.find_at {I : Nat → Nat → Int} {n k : Nat} {w a b : Int} (hk : k < n) (h1 : I k 1 = w) (h2 : I k 2 = a) (h3 : I k 3 = b) (hno : ∀ j, j < k → ¬ (I j 1 = w ∧ I j 2 = a ∧ I j 3 = b)) : Gd.find I n w a b = (k : Int) := by
  unfold Gd.find
  refine En.first_hit (fun j hj => ?_) (by simp [Gd.inQ, h1, h2, h3]) hk
  · have := hno j hj
    simp only [Gd.inQ, Bool.and_eq_false_iff, decide_eq_false_iff_not]
    by_cases e1 : I j 1 = w
    · by_cases e2 : I j 2 = a
      · exact .inr (.inr fun e3 => this ⟨e1, e2, e3⟩)
      · exact .inr (.inl e2)
    · exact .inl e1

theorem Gd.find_no {I : Nat → Nat → Int} {n : Nat} {w a b : Int} (hno : ∀ j, j < n → ¬ (I j 1 = w ∧ I j 2 = a ∧ I j 3 = b)) : Gd.find I n w a b = -1 := by
  rcases Gd.find_cases I n w a b with ⟨h, _⟩ | ⟨k, hk, _, h1, h2, h3, _⟩
  · exact h
  · exact absurd ⟨h1, h2, h3⟩ (hno k hk)

theorem Gd.slot_at {I : Nat → Nat → Int} {n k : Nat} {seat : Int} (hk : k < 4) (hf : Gd.find I n 2 seat (k : Int) < 0) (hno : ∀ j : Nat, j < k → 0 ≤ Gd.find I n 2 seat (j : Int)) : Gd.slot I n seat = (k : Int) := by
  unfold Gd.slot
  refine En.first_hit (fun j hj => ?_) (by simpa using hf) hk
  have := hno j hj
  simp
  omega

/-- What an input does where the hero stands. -/
theorem Gd.next_is {c g : Nat → Int} {E I : Nat → Nat → Int} {seat input : Int} {r kc : Nat} (s0 : 0 ≤ seat) (s4 : seat < 4) (hh : Gd.hero E seat = (r : Int)) (hkc : kc < 384) (hx : E r 3 = (kc : Int) % 24) (hy : E r 4 = (kc : Int) / 24) :
    Gd.nextI c g E I seat input = Gd.act I 40 seat ((kc : Int) % 24) ((kc : Int) / 24) (decide (c kc = 5)) (g seat.toNat) input ∧ Gd.nextE E I seat input = Gd.entsOf E I r seat input ∧ Gd.nextG c g E I seat input = Gd.give g seat.toNat (Gd.goldOf I seat ((kc : Int) % 24) ((kc : Int) / 24) (decide (c kc = 5)) (g seat.toNat) input) := by
  have hc : 0 ≤ seat ∧ seat < 4 ∧ 0 ≤ Gd.hero E seat := ⟨s0, s4, by omega⟩
  unfold Gd.nextI Gd.nextE Gd.nextG
  rw [if_pos hc, if_pos hc, if_pos hc, hh, Int.toNat_natCast, hx, hy, Gr.at_cell c kc hkc]
  exact ⟨rfl, rfl, rfl⟩

theorem Gd.known_pick {x y : Int} (I : Nat → Nat → Int) (hI : I = En.put (fun _ _ => 0) 0 (Gd.row 1 1 x y)) (shop : Bool) (gd : Int) : Gd.act I 40 0 x y shop gd 5 = En.put I 0 (Gd.row 1 2 0 0) := by
  have h0 : I 0 = Gd.row 1 1 x y := by rw [hI, En.put_same]
  have hj : ∀ j, j ≠ 0 → I j = fun _ => 0 := fun j e => by rw [hI, En.put_other e]
  have hf : Gd.find I 40 1 x y = ((0 : Nat) : Int) := Gd.find_at (by omega) (by rw [h0]; rfl) (by rw [h0]; rfl) (by rw [h0]; rfl) (fun j hj => by omega)
  have hs : Gd.slot I 40 0 = ((0 : Nat) : Int) := by
    refine Gd.slot_at (by omega) ?_ (fun j hj => by omega)
    rw [Gd.find_no fun j hjn hc => ?_]
    · omega
    · by_cases e : j = 0
      · subst e
        rw [h0] at hc
        have : (1 : Int) = 2 := hc.1
        omega
      · rw [hj j e] at hc
        have : (0 : Int) = 2 := hc.1
        omega
  unfold Gd.act Gd.pick
  rw [if_pos rfl, hf, hs]
  have h00 : I ((0 : Nat) : Int).toNat 0 = 1 := by
    show I 0 0 = 1
    rw [h0]
    rfl
  rw [h00, if_neg (by omega), if_pos ⟨by omega, by omega⟩]
  rfl

set_option maxHeartbeats 6400000 in
theorem known7_any (w : World) : Calls Try.prog 9 #[] w (Says w (.bool true)) := by
  obtain ⟨w1, hw1⟩ : ∃ w1, w1 = w.alloc (.cells #[.int .i64 0, .int .i64 0, .int .i64 0, .int .i64 0] 38) := ⟨_, rfl⟩
  have hM : Gd.Some w1 (some ⟨w.heap.size, 0, none⟩) (min 1 20) (fun _ _ => 0) := by
    have ha : w1.heap[w.heap.size]? = some (.cells #[.int .i64 0, .int .i64 0, .int .i64 0, .int .i64 0] 38 (0, 0)) := by
      rw [hw1]
      exact heap_alloc_new w _
    have hl : Lie w1 w.heap.size 38 4 (Gd.flat fun _ _ => 0) := Lie.congr (m := 4) (Arr.lit ha).lie fun j hj => by
      rcases (show j = 0 ∨ j = 1 ∨ j = 2 ∨ j = 3 by omega) with rfl | rfl | rfl | rfl <;> rfl
    exact ⟨by omega, .inr ⟨_, 0, rfl, hl.its (by omega) (by omega)⟩⟩
  have hg1 := hide (show w.grownBy w1 none by rw [hw1]; exact World.grownBy_alloc _ _ _)
  have cw := hide (world_any 1 1 0 1 0 (some ⟨w.heap.size, 0, none⟩) 1 1 (fun _ _ => 0) w1 hM)
  rw [hw1] at cw
  clear hM
  go_enter Try.func9, Try.ntmps9
  go_wp2_with fail
  refine (unhide cw).mono ?_
  rw [← hw1]
  clear cw hw1
  rintro e w2 ⟨c, kc, hFl, hkc, hkw, _, I, ⟨gC, gE, gI, cC, cE, cI, rfl, hcap, l1, l2, l3, n1, n2, n3, hL, hg⟩, hOk, hKn⟩
  have hIe := hKn.2 rfl rfl rfl rfl
  have hFine := Gd.told_fine (sn := ((0 : Int) % 4).toNat) (r := ((1 : Int) % 32).toNat) (gd := (0 : Int) % 1000) (st := (0 : Int) % 4) (h := (1 : Int) % 20) (kc := kc) hFl hOk (by decide) (by decide) (by decide) (by decide)
  have hhero := Gd.folk_hero (r := ((1 : Int) % 32).toNat) (by decide) ((0 : Int) % 4) kc ((1 : Int) % 20)
  obtain ⟨E, hE⟩ : ∃ E, En.put (fun _ _ => 0) ((1 : Int) % 32).toNat (Gd.folk ((0 : Int) % 4) kc ((1 : Int) % 20)) = E := ⟨_, rfl⟩
  have hEX : E ((1 : Int) % 32).toNat 3 = (kc : Int) % 24 := by rw [← hE, En.put_same]; rfl
  have hEY : E ((1 : Int) % 32).toNat 4 = (kc : Int) / 24 := by rw [← hE, En.put_same]; rfl
  obtain ⟨g, hge⟩ : ∃ g, Gd.give (fun _ => 0) ((0 : Int) % 4).toNat ((0 : Int) % 1000) = g := ⟨_, rfl⟩
  obtain ⟨s, hs⟩ : ∃ s, Gd.head 1 (1 + 1 % 3) = s := ⟨_, rfl⟩
  rw [hE] at hL hFine hhero
  rw [hge] at hFine ⊢
  rw [hs]
  have hnx := (Gd.next_is (c := c) (g := g) (I := I) (seat := 0) (input := 5) (by decide) (by decide) hhero hkc hEX hEY).1
  have hnI := hnx.trans (Gd.known_pick I hIe _ _)
  have cd : Hid (∀ x, Gd.Lists x gC gE gI c E I → Calls Try.prog 13 #[.agg (Gd.world s gC gE gI cC cE cI g), .int .i64 0, .int .i64 5] x (Gd.Worlds x s (Gd.nextG c g E I 0 5) c (Gd.nextE E I 0 5) (En.put I 0 (Gd.row 1 2 0 0)))) := fun x hx => by
    have h := do_any s g c E I gC gE gI cC cE cI 0 5 x hx hFine
    rw [hnI] at h
    exact h
  have cc : Hid (∀ x, Gd.Lists x gC gE gI c E I → Calls Try.prog 16 #[.agg (Gd.world s gC gE gI cC cE cI g)] x (Tells7 x (Gd.Ok c 40 I))) := fun x hx => check_any s g c E I gC gE gI cC cE cI x hx hFine.cells
  have hOk' := hide hOk
  have hL' := hide hL
  have hg2 := hide (grown_trans (unhide hg1) hg)
  clear hFl hkc hkw hcap l1 l2 l3 n1 n2 n3 hKn hIe hFine hhero hE hEX hEY hge hs hnx hnI hOk hL hg hg1
  obtain ⟨G2, hG2⟩ : ∃ G, Gd.nextG c g E I 0 5 = G := ⟨_, rfl⟩
  obtain ⟨E2, hE2⟩ : ∃ F, Gd.nextE E I 0 5 = F := ⟨_, rfl⟩
  rw [hG2, hE2] at cd
  clear hG2 hE2
  have hb1 := hide (Arr.world (s := s) (gC := gC) (gE := gE) (gI := gI) (cC := cC) (cE := cE) (cI := cI) (g := g) (heap_alloc_new w2 (.cells (Gd.world s gC gE gI cC cE cI g) 29))).lie
  unfold Gd.world at cd cc hb1 ⊢
  go_wp2_with fail
  refine (unhide cd _ ((unhide hL').on (World.grownBy_alloc _ _ _))).mono ?_
  rintro e w4 ⟨jC, jE, jI, dC, dE, dI, rfl, _, _, _, _, _, _, _, hL4, hg4⟩
  obtain ⟨b0, b1, b2, b3, b4, b5, b6, b7, b8, b9, b10⟩ := ((unhide hb1).on hg4).eleven
  have hg24 := hide (grown_trans (unhide hg2) (grown_trans (World.grownBy_alloc _ _ _) hg4))
  have hL5 := hide (((unhide hL').on (World.grownBy_alloc _ _ none)).on hg4)
  have hI4 := hide hL4.items
  have lb1 := ((unhide hb1).on hg4).lt
  clear cd hL4 hg4 hb1 hL'
  have hb2 := hide (Arr.world (s := s) (gC := jC) (gE := jE) (gI := jI) (cC := dC) (cE := dE) (cI := dI) (g := G2) (heap_alloc_new w4 (.cells (Gd.world s jC jE jI dC dE dI G2) 29))).lie
  unfold Gd.world at hb2 ⊢
  go_wp2_with fail
  refine (unhide cc _ ((unhide hL5).on (World.grownBy_alloc _ _ _))).mono ?_
  rintro e w5 ⟨r, rfl, hr, hg5⟩
  obtain rfl : r = true := hr.2 (unhide hOk')
  have b6' := ((unhide hb2).on hg5).eleven.2.2.2.2.2.2.1
  have hI5 := ((unhide hI4).on (World.grownBy_alloc _ _ none)).on hg5
  obtain ⟨i0, i1, i2, i3⟩ := (hI5.its (n := 40) (by omega) (by omega)).row (k := 0) (by omega)
  rw [En.put_same] at i0 i1 i2 i3
  change w5.cell? ⟨jI, 0, none⟩ = some (.int .i64 1) at i0
  change w5.cell? ⟨jI, 1, none⟩ = some (.int .i64 2) at i1
  change w5.cell? ⟨jI, 2, none⟩ = some (.int .i64 0) at i2
  change w5.cell? ⟨jI, 3, none⟩ = some (.int .i64 0) at i3
  have hfin := hide (grown_trans (unhide hg24) (grown_trans (World.grownBy_alloc _ _ _) hg5))
  clear hr hg5 hI5 hb2 hI4 hL5 cc hg24 hg2 b0 b1 b2 b3 b4 b5 b6 b7 b8 b9 b10
  go_wp2
  go_ret
  exact ⟨rfl, unhide hfin⟩

end Go.Proofs.Ythngbjmiblbohaa

namespace Go.Proofs.Ythngbjmiblbohaa
open Go.RowKit

def Gd.text (c : Nat → Int) : ByteArray := strOfNums ((List.range 384).map c)

theorem Lie.text {w : World} {G cap : Nat} {c : Nat → Int} (h : Lie w G 5 384 (Byts c)) : (convert 25 9 (.slice (some ⟨G, 0, none⟩) 384 cap)).run Try.prog w = .ok (.string (Gd.text c)) w := by
  refine run_convert_bytes_arg w 25 5 Try.underlying25 Try.underlying5 G 0 384 cap ((List.range 384).map c) (by simp) (fun i hi => ?_) 9 Try.underlying9
  rw [Nat.zero_add, h.cell hi]
  show some (Value.int .u8 (c i)) = _
  simp [List.getD, List.getElem?_map, List.getElem?_range hi]

theorem run_eq_gold (a b c d : Int) (w : World) : (Op.equalIn 10000 27 (.agg #[.int .i64 a, .int .i64 b, .int .i64 c, .int .i64 d]) (.agg #[.int .i64 a, .int .i64 b, .int .i64 c, .int .i64 d])).run Try.prog w = .ok true w := by
  obtain ⟨i0, hi, _, _, _⟩ := info_parts info_int
  have hc : Try.prog.cellsOf 3 = 1 := by kernel_rfl
  have h := run_equalIn_array (P := Try.prog) (w := w) 9999 #[.int .i64 a, .int .i64 b, .int .i64 c, .int .i64 d] #[.int .i64 a, .int .i64 b, .int .i64 c, .int .i64 d] Try.underlying27 hi
  have hr : (Op.eqItems 9999 3 (Try.prog.cellsOf 3) #[Value.int .i64 a, .int .i64 b, .int .i64 c, .int .i64 d] #[.int .i64 a, .int .i64 b, .int .i64 c, .int .i64 d] (List.range 4)).run Try.prog w = .ok true w := by
    rw [hc]
    simp [List.range, List.range.loop, Op.eqItems, go_sem]
  rw [hr] at h
  exact h

set_option maxRecDepth 8000 in
set_option maxHeartbeats 6400000 in
theorem same7_any (s g c : Nat → Int) (E I : Nat → Nat → Int) (gC gE gI cC cE cI hC hE hI dC dE dI : Nat) (w : World) (hL : Gd.Lists w gC gE gI c E I) (hL2 : Gd.Lists w hC hE hI c E I) :
    Calls Try.prog 14 #[.agg (Gd.world s gC gE gI cC cE cI g), .agg (Gd.world s hC hE hI dC dE dI g)] w (Says w (.bool true)) := by
  obtain ⟨W, hW⟩ : ∃ W, W = (w.alloc (.cells (Gd.world s gC gE gI cC cE cI g) 29)).alloc (.cells (Gd.world s hC hE hI dC dE dI g) 29) := ⟨_, rfl⟩
  have hg : w.grownBy W none := by rw [hW]; exact grown_alloc (World.grownBy_alloc _ _ _) _
  have x1 : Lie W w.heap.size 29 11 (Gd.box s gC gE gI cC cE cI g) := by
    rw [hW]
    exact ((Arr.world (heap_alloc_new w _)).alloc _).lie
  have x2 : Lie W (w.heap.size + 1) 29 11 (Gd.box s hC hE hI dC dE dI g) := by
    rw [hW]
    have h := heap_alloc_new (w.alloc (.cells (Gd.world s gC gE gI cC cE cI g) 29)) (.cells (Gd.world s hC hE hI dC dE dI g) 29)
    rw [show (w.alloc (.cells (Gd.world s gC gE gI cC cE cI g) 29)).heap.size = w.heap.size + 1 by simp] at h
    exact (Arr.world h).lie
  obtain ⟨B, hB⟩ : ∃ B, w.heap.size = B := ⟨_, rfl⟩
  rw [hB] at x1 x2
  have x1' := hide x1
  have x2' := hide x2
  have hL' := hide (hL.on hg)
  have hL2' := hide (hL2.on hg)
  have hg' := hide hg
  have t1 := (unhide hL').cells.text (cap := cC)
  have t2 := (unhide hL2').cells.text (cap := dC)
  obtain ⟨T, hT⟩ : ∃ T, T = Gd.text c := ⟨_, rfl⟩
  rw [← hT] at t1 t2
  obtain ⟨a0, a1, a2, a3, a4, a5, a6, a7, a8, a9, a10⟩ := x1.eleven
  obtain ⟨b0, b1, b2, b3, b4, b5, b6, b7, b8, b9, b10⟩ := x2.eleven
  have keep : Hid (∀ x, W.grownBy x none → (x.cell? ⟨B, 5, none⟩ = some (.slice (some ⟨gE, 0, none⟩) 32 cE) ∧ x.cell? ⟨B, 6, none⟩ = some (.slice (some ⟨gI, 0, none⟩) 40 cI) ∧ x.cell? ⟨B + 1, 5, none⟩ = some (.slice (some ⟨hE, 0, none⟩) 32 dE) ∧ x.cell? ⟨B + 1, 6, none⟩ = some (.slice (some ⟨hI, 0, none⟩) 40 dI))) := fun x h =>
    ⟨((unhide x1').on h).eleven.2.2.2.2.2.1, ((unhide x1').on h).eleven.2.2.2.2.2.2.1, ((unhide x2').on h).eleven.2.2.2.2.2.1, ((unhide x2').on h).eleven.2.2.2.2.2.2.1⟩
  have hgold := fun wx => run_eq_gold (g 0) (g 1) (g 2) (g 3) wx
  clear hL hL2 hg hT x1 x2
  unfold Gd.world at hW ⊢
  go_enter Try.func14, Try.ntmps14
  go_upto_region 1 with fail
  rw [← hW]
  clear hW hB
  go_wp2_with fail
  go_loopw [5] (fun vi wr => ∃ k : Nat, k ≤ 32 ∧ vi = .int .i64 (k : Int) ∧ W.grownBy wr none) (fun vi _ => 200 - (intOf vi).toNat)
  case atStart => exact ⟨0, by omega, rfl, World.grownBy.refl _ _⟩
  case round =>
    clear hgold t1 t2 a0 a1 a2 a3 a4 a5 a6 a7 a8 a9 a10 b0 b1 b2 b3 b4 b5 b6 b7 b8 b9 b10
    obtain ⟨k, hk, rfl, hgr⟩ := hrel
    have hgr' := hide hgr
    obtain ⟨k1, k2, k3, k4⟩ := unhide keep wr hgr
    clear hgr
    by_cases hlt : k < 32
    · have hlt' : (k : Int) < 32 := by omega
      obtain ⟨u0, u1, u2, u3, u4, u5, u6, u7, u8, u9, u10⟩ := ((unhide hL').on (unhide hgr')).own.ents.row hlt
      obtain ⟨s0, s1, s2, s3, s4, s5, s6, s7, s8, s9, s10⟩ := ((unhide hL2').on (unhide hgr')).own.ents.row hlt
      have hdr : Hid (∀ m, W.grownBy (wr.drewN m) none) := fun m => grown_drew (unhide hgr') m
      have HL := hide hlt
      clear hlt
      go_wp2_with fail
      go_quiet (fail)
      go_wp2
      go_roundw
      case rel => exact ⟨k + 1, by have := unhide HL; omega, by go_num, unhide hdr _⟩
      case measure => simp [intOf]; omega
    · have hge : ¬ (k : Int) < 32 := by omega
      clear hlt
      go_wp2_with fail
      go_loopw [6] (fun vi wr => ∃ k : Nat, k ≤ 40 ∧ vi = .int .i64 (k : Int) ∧ W.grownBy wr none) (fun vi _ => 200 - (intOf vi).toNat)
      case atStart => exact ⟨0, by omega, rfl, unhide hgr'⟩
      case round =>
        clear k1 k2 k3 k4 hge hgr'
        obtain ⟨k, hk, rfl, hgr⟩ := hrel
        have hgr' := hide hgr
        obtain ⟨k1, k2, k3, k4⟩ := unhide keep wr hgr
        clear hgr
        by_cases hlt : k < 40
        · have hlt' : (k : Int) < 40 := by omega
          obtain ⟨u0, u1, u2, u3⟩ := ((unhide hL').on (unhide hgr')).its.row hlt
          obtain ⟨s0, s1, s2, s3⟩ := ((unhide hL2').on (unhide hgr')).its.row hlt
          have hdr : Hid (∀ m, W.grownBy (wr.drewN m) none) := fun m => grown_drew (unhide hgr') m
          have HL := hide hlt
          clear hlt
          go_wp2_with fail
          go_quiet (fail)
          go_wp2
          go_roundw
          case rel => exact ⟨k + 1, by have := unhide HL; omega, by go_num, unhide hdr _⟩
          case measure => simp [intOf]; omega
        · have hge : ¬ (k : Int) < 40 := by omega
          have hfin := hide (grown_trans (unhide hg') (unhide hgr'))
          go_wp2
          go_ret
          exact ⟨rfl, unhide hfin⟩

end Go.Proofs.Ythngbjmiblbohaa

namespace Go.Proofs.Ythngbjmiblbohaa
open Go.RowKit

/-- A world whose hero of a seat stands at a cell that can be walked on. -/
structure Gd.Sit (c g : Nat → Int) (E I : Nat → Nat → Int) (seat : Int) (r kc : Nat) : Prop where
  fine : Gd.Fine c g E I
  s0 : 0 ≤ seat
  s4 : seat < 4
  hero : Gd.hero E seat = (r : Int)
  r32 : r < 32
  kc4 : kc < 384
  walk : Gr.walkB (c kc) = true
  x : E r 3 = (kc : Int) % 24
  y : E r 4 = (kc : Int) / 24

theorem do_sit (s g c : Nat → Int) (E I : Nat → Nat → Int) (gC gE gI cC cE cI r kc : Nat) (seat input : Int) (h : Gd.Sit c g E I seat r kc) (w : World) (hL : Gd.Lists w gC gE gI c E I) :
    Calls Try.prog 13 #[.agg (Gd.world s gC gE gI cC cE cI g), .int .i64 seat, .int .i64 input] w (Gd.Worlds w s (Gd.give g seat.toNat (Gd.goldOf I seat ((kc : Int) % 24) ((kc : Int) / 24) (decide (c kc = 5)) (g seat.toNat) input)) c (Gd.entsOf E I r seat input) (Gd.act I 40 seat ((kc : Int) % 24) ((kc : Int) / 24) (decide (c kc = 5)) (g seat.toNat) input)) := by
  obtain ⟨h1, h2, h3⟩ := Gd.next_is (c := c) (g := g) (I := I) (input := input) h.s0 h.s4 h.hero h.kc4 h.x h.y
  have hd := do_any s g c E I gC gE gI cC cE cI seat input w hL h.fine
  rwa [h1, h2, h3] at hd

/-- An input that turns nothing but items. -/
theorem do_items (s g c : Nat → Int) (E I J : Nat → Nat → Int) (gC gE gI cC cE cI r kc : Nat) (seat input : Int) (h : Gd.Sit c g E I seat r kc) (hi : input = 7 ∨ input = 8 ∨ input = 5 ∧ Gd.goldOf I seat ((kc : Int) % 24) ((kc : Int) / 24) (decide (c kc = 5)) (g seat.toNat) input = g seat.toNat)
    (hJ : Gd.act I 40 seat ((kc : Int) % 24) ((kc : Int) / 24) (decide (c kc = 5)) (g seat.toNat) input = J) (w : World) (hL : Gd.Lists w gC gE gI c E I) :
    Calls Try.prog 13 #[.agg (Gd.world s gC gE gI cC cE cI g), .int .i64 seat, .int .i64 input] w (Gd.Worlds w s g c E J) := by
  have hd := do_sit s g c E I gC gE gI cC cE cI r kc seat input h w hL
  have hg : Gd.goldOf I seat ((kc : Int) % 24) ((kc : Int) / 24) (decide (c kc = 5)) (g seat.toNat) input = g seat.toNat := by
    rcases hi with rfl | rfl | ⟨_, e⟩
    · rfl
    · rfl
    · exact e
  have he : Gd.entsOf E I r seat input = E := by
    unfold Gd.entsOf
    rw [if_neg]
    rcases hi with rfl | rfl | ⟨rfl, _⟩ <;> omega
  rwa [hg, Gd.give_same, he, hJ] at hd

theorem Gd.Sit.items {c g : Nat → Int} {E I J : Nat → Nat → Int} {seat : Int} {r kc : Nat} (h : Gd.Sit c g E I seat r kc) (hJ : Gd.Ok c 40 J) : Gd.Sit c g E J seat r kc :=
  { h with fine := { h.fine with ok := hJ } }

/-- The law's world without items. -/
theorem world_bare (seed floor seat at_ gold : Int) (s0 : 0 ≤ seat) (s4 : seat < 4) (w : World) :
    Calls Try.prog 10 #[.int .i64 seed, .int .i64 floor, .int .i64 seat, .int .i64 at_, .slice none 0 0, .int .i64 gold] w fun e w' => ∃ (c : Nat → Int) (kc : Nat) (s g : Nat → Int) (E : Nat → Nat → Int), Gd.Sit c g E (fun _ _ => 0) seat (at_ % 32).toNat kc ∧ Nv.Floor c ∧ (at_.tmod 3 = 0 → 0 ≤ Gr.find 384 c 5 → Gr.find 384 c 5 = (kc : Int)) ∧ g seat.toNat = gold % 1000 ∧ E = En.put (fun _ _ => 0) (at_ % 32).toNat (Gd.folk seat kc (at_ % 20)) ∧ Gd.Worlds w s g c E (fun _ _ => 0) e w' := by
  refine (world_any seed floor seat at_ gold none 0 0 (fun _ _ => 0) w ⟨by omega, .inl rfl⟩).mono ?_
  rintro e w' ⟨c, kc, hF, hkc, hkw, hshop, I, hW, hOk, hKn⟩
  have hI := hKn.1 rfl
  subst hI
  rw [Int.emod_eq_of_lt s0 s4] at hW
  refine ⟨c, kc, _, _, _, ⟨Gd.told_fine hF hOk (by omega) (by omega) (by omega) (by omega), s0, s4, Gd.folk_hero (by omega) _ _ _, by omega, hkc, hkw, by rw [En.put_same]; rfl, by rw [En.put_same]; rfl⟩, hF, hshop, ?_, rfl, hW⟩
  unfold Gd.give
  rw [if_pos rfl]

theorem Gd.has_at {I : Nat → Nat → Int} {n b k : Nat} {seat lo hi : Int} (hb : b < 4) (hf : Gd.find I n 2 seat (b : Int) = (k : Int)) (h1 : lo ≤ I k 0) (h2 : I k 0 ≤ hi) (hno : ∀ j : Nat, j < b → Gd.find I n 2 seat (j : Int) < 0) : Gd.has I n seat lo hi = (k : Int) := by
  have hq : En.first (Gd.hasQ I n seat lo hi) 4 = (b : Int) := by
    refine En.first_hit (fun j hj => ?_) ?_ hb
    · have := hno j hj
      unfold Gd.hasQ
      rw [decide_eq_false (by omega)]
      rfl
    · unfold Gd.hasQ
      rw [hf, Int.toNat_natCast, decide_eq_true (by omega), decide_eq_true h1, decide_eq_true h2]
      rfl
  unfold Gd.has
  rw [hq, if_pos (by omega), hf]

theorem Gd.has_no {I : Nat → Nat → Int} {n : Nat} {seat lo hi : Int} (hno : ∀ j : Nat, j < 4 → Gd.find I n 2 seat (j : Int) < 0) : Gd.has I n seat lo hi = -1 := by
  have hq : En.first (Gd.hasQ I n seat lo hi) 4 = -1 := by
    refine En.first_none fun j hj => ?_
    have := hno j hj
    unfold Gd.hasQ
    rw [decide_eq_false (by omega)]
    rfl
  unfold Gd.has
  rw [hq, if_neg (by omega)]

end Go.Proofs.Ythngbjmiblbohaa
