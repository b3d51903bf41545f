/-
  A record that is added: why it may not be (refusal), slices.Clone, Add.
-/
import Derived.Test.YtiegccdgoemamaaTableTell
import Derived.Test.YtiegccdgoemamaaEntLow
import Derived.Deep.RegionHeld3
import Derived.BigQuiet
namespace Go.Proofs.Ytiegccdgoemamaa
open Go.RowKit Go.WideShapes

/-- Why a record (kind, seat, frame, last) may not be added; 0: it may. -/
def Tb.retErr (E : Nat → Nat → Int) (n : Nat) (s f l : Int) : Int :=
  if s = 0 ∨ Tb.at E s 9223372036854775807 n < 0 then 16
  else if E (Tb.at E s 9223372036854775807 n).toNat 2 ≠ 0 ∨ f ≤ E (Tb.at E s 9223372036854775807 n).toNat 1 then 16
  else if l < E (Tb.at E s 9223372036854775807 n).toNat 1 ∨ f < l then 1 else 0

def Tb.err (E : Nat → Nat → Int) (n : Nat) (k s f l : Int) : Int :=
  if ¬ (k = 2 ∨ k = 3) then 3
  else if s < 0 ∨ 4 ≤ s then 16
  else if f < 1 then 1
  else if k = 3 then Tb.retErr E n s f l
  else if Tb.free E n s (f - 1) = true then 0 else 16

/-- A record in a box of its own. -/
theorem Tb.boxedR (w : World) (k i s f l : Int) : ∃ x R, x = w.alloc (.cells #[.int .i64 k, .int .i64 i, .int .i64 s, .int .i64 f, .int .i64 l] 50) ∧ R = w.heap.size ∧ w.grownBy x none ∧ R < x.heap.size ∧
    ∀ y, x.grownBy y none → y.cell? ⟨R, 0, none⟩ = some (.int .i64 k) ∧ y.cell? ⟨R, 1, none⟩ = some (.int .i64 i) ∧ y.cell? ⟨R, 2, none⟩ = some (.int .i64 s) ∧ y.cell? ⟨R, 3, none⟩ = some (.int .i64 f) ∧ y.cell? ⟨R, 4, none⟩ = some (.int .i64 l) := by
  have hA := Arr.lit (heap_alloc_new w (.cells #[.int .i64 k, .int .i64 i, .int .i64 s, .int .i64 f, .int .i64 l] 50))
  exact ⟨_, _, rfl, rfl, World.grownBy_alloc _ _ _, hA.lt, fun y hy => ⟨(hA.grown hy (by simp)).cell (i := 0) (by simp), (hA.grown hy (by simp)).cell (i := 1) (by simp), (hA.grown hy (by simp)).cell (i := 2) (by simp), (hA.grown hy (by simp)).cell (i := 3) (by simp), (hA.grown hy (by simp)).cell (i := 4) (by simp)⟩⟩

set_option maxHeartbeats 12800000 in
theorem tbRet_any (a : Option Addr) (n c : Nat) (E : Nat → Nat → Int) (k i s f l : Int) (w : World) (h : Tb.Rows w a n E) (hn : n ≤ maxLen) :
    Calls Try.prog 61 #[.slice a n c, .agg #[.int .i64 k, .int .i64 i, .int .i64 s, .int .i64 f, .int .i64 l]] w (Says w (.int .i64 (Tb.retErr E n s f l))) := by
  have hm : (n : Int) ≤ 9223372036854775807 := by unfold maxLen at hn; omega
  obtain ⟨W1, R, hW1, hR, hg1, hlt1, hB⟩ := Tb.boxedR w k i s f l
  have cl := hide (tbLast_any a n c E s W1 (h.on hg1) hn)
  have HB := hide hB
  have HG := hide hg1
  obtain ⟨b0, b1, b2, b3, b4⟩ := hB W1 (World.grownBy.refl _ _)
  have H := hide h
  obtain ⟨r, hr⟩ : ∃ r, Tb.retErr E n s f l = r := ⟨_, rfl⟩
  have HR := hide hr
  rw [hr]
  clear h hn hr hB hg1 hlt1
  unfold Tb.retErr at HR
  rcases Tb.at_cases E s 9223372036854775807 n with ⟨hat, -⟩ | ⟨q, hq, hat, -, -⟩
  · rw [hat, if_pos (.inr (by omega))] at HR
    rw [hat] at cl
    clear hat H
    cases e0 : (s == 0) with
    | true =>
      go_enter Try.func61, Try.ntmps61
      go_upto_region 1 with fail
      rw [← hW1, ← hR]
      clear hW1 hR
      go_wp2_with fail
      refine (unhide cl).mono ?_
      rintro e y ⟨rfl, hy⟩
      have HY := hide (grown_trans (unhide HG) hy)
      have HYW := hide hy
      clear b0 b1 b2 b3 b4 hy cl
      go_upto_region 2 with fail
      refine wp_region_grown (by kernel_rfl) (by kernel_rfl) ?_
      intro St hN W hI hx
      have b0 := fun σ => (unhide HB (W σ) (grown_trans (unhide HYW) (hI σ))).1
      have b2 := fun σ => (unhide HB (W σ) (grown_trans (unhide HYW) (hI σ))).2.2.1
      have b3 := fun σ => (unhide HB (W σ) (grown_trans (unhide HYW) (hI σ))).2.2.2.1
      have hI' := hide hI
      clear hI hx
      repeat (go_big_quiet_step (fail))
      refine wpQuiet_nil ?_
      rintro _ ⟨σ, rfl⟩
      obtain ⟨wq, hwq⟩ : ∃ wq, W σ = wq := ⟨_, rfl⟩
      have hgq := hide (unhide hI' σ)
      rw [hwq] at hgq ⊢
      clear b0 b2 b3 hI' hwq
      clear σ W hN St
      go_wp2
      go_ret
      exact ⟨ret_int (unhide HR), grown_trans (unhide HY) (unhide hgq)⟩
    | false =>
      go_enter Try.func61, Try.ntmps61
      go_upto_region 1 with fail
      rw [← hW1, ← hR]
      clear hW1 hR
      go_wp2_with fail
      refine (unhide cl).mono ?_
      rintro e y ⟨rfl, hy⟩
      have HY := hide (grown_trans (unhide HG) hy)
      have HYW := hide hy
      clear b0 b1 b2 b3 b4 hy cl
      go_upto_region 2 with fail
      refine wp_region_grown (by kernel_rfl) (by kernel_rfl) ?_
      intro St hN W hI hx
      have b0 := fun σ => (unhide HB (W σ) (grown_trans (unhide HYW) (hI σ))).1
      have b2 := fun σ => (unhide HB (W σ) (grown_trans (unhide HYW) (hI σ))).2.2.1
      have b3 := fun σ => (unhide HB (W σ) (grown_trans (unhide HYW) (hI σ))).2.2.2.1
      have hI' := hide hI
      clear hI hx
      repeat (go_big_quiet_step (fail))
      refine wpQuiet_nil ?_
      rintro _ ⟨σ, rfl⟩
      obtain ⟨wq, hwq⟩ : ∃ wq, W σ = wq := ⟨_, rfl⟩
      have hgq := hide (unhide hI' σ)
      rw [hwq] at hgq ⊢
      clear b0 b2 b3 hI' hwq
      clear σ W hN St
      go_wp2
      go_ret
      exact ⟨ret_int (unhide HR), grown_trans (unhide HY) (unhide hgq)⟩
  · rw [hat, Int.toNat_natCast] at HR
    rw [hat] at cl
    obtain ⟨b, rfl, hb, -⟩ := (unhide H).row hq
    have hq' : (q : Int) < (n : Int) := by omega
    have hq0 : decide ((q : Int) < 0) = false := decide_eq_false (by omega)
    have HH := hide (show ∀ x, w.grownBy x Option.none → x.cell? ⟨b, q * 4, none⟩ = some (.int .i64 (E q 0)) ∧ x.cell? ⟨b, q * 4 + 1, none⟩ = some (.int .i64 (E q 1)) ∧ x.cell? ⟨b, q * 4 + 2, none⟩ = some (.int .i64 (E q 2)) ∧ x.cell? ⟨b, q * 4 + 3, none⟩ = some (.int .i64 (E q 3)) from fun x hg => by
      obtain ⟨b', hb', -, h⟩ := ((unhide H).on hg).row hq
      cases hb'
      exact h)
    clear hat H hq hb
    by_cases hs : s = 0
    · rw [if_pos (.inl hs)] at HR
      have e0 : (s == 0) = true := by simp [hs]
      clear hs
      go_enter Try.func61, Try.ntmps61
      go_upto_region 1 with fail
      rw [← hW1, ← hR]
      clear hW1 hR
      go_wp2_with fail
      refine (unhide cl).mono ?_
      rintro e y ⟨rfl, hy⟩
      have HY := hide (grown_trans (unhide HG) hy)
      have HYW := hide hy
      clear b0 b1 b2 b3 b4 hy cl
      go_upto_region 2 with fail
      refine wp_region_grown (by kernel_rfl) (by kernel_rfl) ?_
      intro St hN W hI hx
      have b0 := fun σ => (unhide HB (W σ) (grown_trans (unhide HYW) (hI σ))).1
      have b2 := fun σ => (unhide HB (W σ) (grown_trans (unhide HYW) (hI σ))).2.2.1
      have b3 := fun σ => (unhide HB (W σ) (grown_trans (unhide HYW) (hI σ))).2.2.2.1
      have u0 := fun σ => (unhide HH (W σ) (grown_trans (unhide HY) (hI σ))).1
      have u1 := fun σ => (unhide HH (W σ) (grown_trans (unhide HY) (hI σ))).2.1
      have u2 := fun σ => (unhide HH (W σ) (grown_trans (unhide HY) (hI σ))).2.2.1
      have u3 := fun σ => (unhide HH (W σ) (grown_trans (unhide HY) (hI σ))).2.2.2
      have co : ∀ σ, Calls Try.prog 63 #[.agg #[.int .i64 (E q 0), .int .i64 (E q 1), .int .i64 (E q 2), .int .i64 (E q 3)]] (W σ) fun e w'' => e = .returned (.bool (E q 2 == 0)) ∧ ∃ σ', w'' = W σ' := fun σ => calls_class hI hx (tbOpen_any _ _ _ _ _)
      have hI' := hide hI
      clear hI hx
      repeat (go_big_quiet_step ((go_at_call 63; exact co _)))
      refine wpQuiet_nil ?_
      rintro _ ⟨σ, rfl⟩
      obtain ⟨wq, hwq⟩ : ∃ wq, W σ = wq := ⟨_, rfl⟩
      have hgq := hide (unhide hI' σ)
      rw [hwq] at hgq ⊢
      clear b0 b2 b3 hI' hwq u0 u1 u2 u3 co
      clear σ W hN St
      go_wp2
      go_ret
      exact ⟨ret_int (unhide HR), grown_trans (unhide HY) (unhide hgq)⟩
    · rw [if_neg (by rintro (h | h); exact hs h; omega)] at HR
      have e0 : (s == 0) = false := by simp [hs]
      clear hs
      by_cases h2 : E q 2 = 0
      · have e2 : (E q 2 == 0) = true := by simp [h2]
        by_cases h3 : f ≤ E q 1
        · rw [if_pos (.inr h3)] at HR
          clear h2
          go_enter Try.func61, Try.ntmps61
          go_upto_region 1 with fail
          rw [← hW1, ← hR]
          clear hW1 hR
          go_wp2_with fail
          refine (unhide cl).mono ?_
          rintro e y ⟨rfl, hy⟩
          have HY := hide (grown_trans (unhide HG) hy)
          have HYW := hide hy
          clear b0 b1 b2 b3 b4 hy cl
          go_upto_region 2 with fail
          refine wp_region_grown (by kernel_rfl) (by kernel_rfl) ?_
          intro St hN W hI hx
          have b0 := fun σ => (unhide HB (W σ) (grown_trans (unhide HYW) (hI σ))).1
          have b2 := fun σ => (unhide HB (W σ) (grown_trans (unhide HYW) (hI σ))).2.2.1
          have b3 := fun σ => (unhide HB (W σ) (grown_trans (unhide HYW) (hI σ))).2.2.2.1
          have u0 := fun σ => (unhide HH (W σ) (grown_trans (unhide HY) (hI σ))).1
          have u1 := fun σ => (unhide HH (W σ) (grown_trans (unhide HY) (hI σ))).2.1
          have u2 := fun σ => (unhide HH (W σ) (grown_trans (unhide HY) (hI σ))).2.2.1
          have u3 := fun σ => (unhide HH (W σ) (grown_trans (unhide HY) (hI σ))).2.2.2
          have co : ∀ σ, Calls Try.prog 63 #[.agg #[.int .i64 (E q 0), .int .i64 (E q 1), .int .i64 (E q 2), .int .i64 (E q 3)]] (W σ) fun e w'' => e = .returned (.bool (E q 2 == 0)) ∧ ∃ σ', w'' = W σ' := fun σ => calls_class hI hx (tbOpen_any _ _ _ _ _)
          rw [e2] at co
          have hI' := hide hI
          clear hI hx
          repeat (go_big_quiet_step ((go_at_call 63; exact co _)))
          refine wpQuiet_nil ?_
          rintro _ ⟨σ, rfl⟩
          obtain ⟨wq, hwq⟩ : ∃ wq, W σ = wq := ⟨_, rfl⟩
          have hgq := hide (unhide hI' σ)
          rw [hwq] at hgq ⊢
          clear b0 b2 b3 hI' hwq u0 u1 u2 u3 co
          clear σ W hN St
          go_wp2
          go_ret
          exact ⟨ret_int (unhide HR), grown_trans (unhide HY) (unhide hgq)⟩
        · rw [if_neg (by rintro (h | h); exact h h2; exact h3 h)] at HR
          clear h2
          by_cases h4 : l < E q 1
          · rw [if_pos (.inl h4)] at HR
            go_enter Try.func61, Try.ntmps61
            go_upto_region 1 with fail
            rw [← hW1, ← hR]
            clear hW1 hR
            go_wp2_with fail
            refine (unhide cl).mono ?_
            rintro e y ⟨rfl, hy⟩
            have HY := hide (grown_trans (unhide HG) hy)
            have HYW := hide hy
            clear b0 b1 b2 b3 b4 hy cl
            go_upto_region 2 with fail
            refine wp_region_grown (by kernel_rfl) (by kernel_rfl) ?_
            intro St hN W hI hx
            have b0 := fun σ => (unhide HB (W σ) (grown_trans (unhide HYW) (hI σ))).1
            have b2 := fun σ => (unhide HB (W σ) (grown_trans (unhide HYW) (hI σ))).2.2.1
            have b3 := fun σ => (unhide HB (W σ) (grown_trans (unhide HYW) (hI σ))).2.2.2.1
            have u0 := fun σ => (unhide HH (W σ) (grown_trans (unhide HY) (hI σ))).1
            have u1 := fun σ => (unhide HH (W σ) (grown_trans (unhide HY) (hI σ))).2.1
            have u2 := fun σ => (unhide HH (W σ) (grown_trans (unhide HY) (hI σ))).2.2.1
            have u3 := fun σ => (unhide HH (W σ) (grown_trans (unhide HY) (hI σ))).2.2.2
            have co : ∀ σ, Calls Try.prog 63 #[.agg #[.int .i64 (E q 0), .int .i64 (E q 1), .int .i64 (E q 2), .int .i64 (E q 3)]] (W σ) fun e w'' => e = .returned (.bool (E q 2 == 0)) ∧ ∃ σ', w'' = W σ' := fun σ => calls_class hI hx (tbOpen_any _ _ _ _ _)
            rw [e2] at co
            have hI' := hide hI
            clear hI hx
            repeat (go_big_quiet_step ((go_at_call 63; exact co _)))
            refine wpQuiet_nil ?_
            rintro _ ⟨σ, rfl⟩
            obtain ⟨wq, hwq⟩ : ∃ wq, W σ = wq := ⟨_, rfl⟩
            have hgq := hide (unhide hI' σ)
            rw [hwq] at hgq ⊢
            clear b0 b2 b3 hI' hwq u0 u1 u2 u3 co
            clear σ W hN St
            go_upto_region 4 with fail
            obtain ⟨b0, b1, b2, b3, b4⟩ := unhide HB wq (grown_trans (unhide HYW) (unhide hgq))
            obtain ⟨u0, u1, u2, u3⟩ := unhide HH wq (grown_trans (unhide HY) (unhide hgq))
            have hdr : Hid (∀ m, w.grownBy (wq.drewN m) none) := fun m => grown_drew (grown_trans (unhide HY) (unhide hgq)) m
            go_quiet (fail)
            go_wp2
            go_ret
            exact ⟨ret_int (unhide HR), unhide hdr _⟩
          · by_cases h5 : f < l
            · rw [if_pos (.inr h5)] at HR
              go_enter Try.func61, Try.ntmps61
              go_upto_region 1 with fail
              rw [← hW1, ← hR]
              clear hW1 hR
              go_wp2_with fail
              refine (unhide cl).mono ?_
              rintro e y ⟨rfl, hy⟩
              have HY := hide (grown_trans (unhide HG) hy)
              have HYW := hide hy
              clear b0 b1 b2 b3 b4 hy cl
              go_upto_region 2 with fail
              refine wp_region_grown (by kernel_rfl) (by kernel_rfl) ?_
              intro St hN W hI hx
              have b0 := fun σ => (unhide HB (W σ) (grown_trans (unhide HYW) (hI σ))).1
              have b2 := fun σ => (unhide HB (W σ) (grown_trans (unhide HYW) (hI σ))).2.2.1
              have b3 := fun σ => (unhide HB (W σ) (grown_trans (unhide HYW) (hI σ))).2.2.2.1
              have u0 := fun σ => (unhide HH (W σ) (grown_trans (unhide HY) (hI σ))).1
              have u1 := fun σ => (unhide HH (W σ) (grown_trans (unhide HY) (hI σ))).2.1
              have u2 := fun σ => (unhide HH (W σ) (grown_trans (unhide HY) (hI σ))).2.2.1
              have u3 := fun σ => (unhide HH (W σ) (grown_trans (unhide HY) (hI σ))).2.2.2
              have co : ∀ σ, Calls Try.prog 63 #[.agg #[.int .i64 (E q 0), .int .i64 (E q 1), .int .i64 (E q 2), .int .i64 (E q 3)]] (W σ) fun e w'' => e = .returned (.bool (E q 2 == 0)) ∧ ∃ σ', w'' = W σ' := fun σ => calls_class hI hx (tbOpen_any _ _ _ _ _)
              rw [e2] at co
              have hI' := hide hI
              clear hI hx
              repeat (go_big_quiet_step ((go_at_call 63; exact co _)))
              refine wpQuiet_nil ?_
              rintro _ ⟨σ, rfl⟩
              obtain ⟨wq, hwq⟩ : ∃ wq, W σ = wq := ⟨_, rfl⟩
              have hgq := hide (unhide hI' σ)
              rw [hwq] at hgq ⊢
              clear b0 b2 b3 hI' hwq u0 u1 u2 u3 co
              clear σ W hN St
              go_upto_region 4 with fail
              obtain ⟨b0, b1, b2, b3, b4⟩ := unhide HB wq (grown_trans (unhide HYW) (unhide hgq))
              obtain ⟨u0, u1, u2, u3⟩ := unhide HH wq (grown_trans (unhide HY) (unhide hgq))
              have hdr : Hid (∀ m, w.grownBy (wq.drewN m) none) := fun m => grown_drew (grown_trans (unhide HY) (unhide hgq)) m
              go_quiet (fail)
              go_wp2
              go_ret
              exact ⟨ret_int (unhide HR), unhide hdr _⟩
            · rw [if_neg (by rintro (h | h); exact h4 h; exact h5 h)] at HR
              go_enter Try.func61, Try.ntmps61
              go_upto_region 1 with fail
              rw [← hW1, ← hR]
              clear hW1 hR
              go_wp2_with fail
              refine (unhide cl).mono ?_
              rintro e y ⟨rfl, hy⟩
              have HY := hide (grown_trans (unhide HG) hy)
              have HYW := hide hy
              clear b0 b1 b2 b3 b4 hy cl
              go_upto_region 2 with fail
              refine wp_region_grown (by kernel_rfl) (by kernel_rfl) ?_
              intro St hN W hI hx
              have b0 := fun σ => (unhide HB (W σ) (grown_trans (unhide HYW) (hI σ))).1
              have b2 := fun σ => (unhide HB (W σ) (grown_trans (unhide HYW) (hI σ))).2.2.1
              have b3 := fun σ => (unhide HB (W σ) (grown_trans (unhide HYW) (hI σ))).2.2.2.1
              have u0 := fun σ => (unhide HH (W σ) (grown_trans (unhide HY) (hI σ))).1
              have u1 := fun σ => (unhide HH (W σ) (grown_trans (unhide HY) (hI σ))).2.1
              have u2 := fun σ => (unhide HH (W σ) (grown_trans (unhide HY) (hI σ))).2.2.1
              have u3 := fun σ => (unhide HH (W σ) (grown_trans (unhide HY) (hI σ))).2.2.2
              have co : ∀ σ, Calls Try.prog 63 #[.agg #[.int .i64 (E q 0), .int .i64 (E q 1), .int .i64 (E q 2), .int .i64 (E q 3)]] (W σ) fun e w'' => e = .returned (.bool (E q 2 == 0)) ∧ ∃ σ', w'' = W σ' := fun σ => calls_class hI hx (tbOpen_any _ _ _ _ _)
              rw [e2] at co
              have hI' := hide hI
              clear hI hx
              repeat (go_big_quiet_step ((go_at_call 63; exact co _)))
              refine wpQuiet_nil ?_
              rintro _ ⟨σ, rfl⟩
              obtain ⟨wq, hwq⟩ : ∃ wq, W σ = wq := ⟨_, rfl⟩
              have hgq := hide (unhide hI' σ)
              rw [hwq] at hgq ⊢
              clear b0 b2 b3 hI' hwq u0 u1 u2 u3 co
              clear σ W hN St
              go_upto_region 4 with fail
              obtain ⟨b0, b1, b2, b3, b4⟩ := unhide HB wq (grown_trans (unhide HYW) (unhide hgq))
              obtain ⟨u0, u1, u2, u3⟩ := unhide HH wq (grown_trans (unhide HY) (unhide hgq))
              have hdr : Hid (∀ m, w.grownBy (wq.drewN m) none) := fun m => grown_drew (grown_trans (unhide HY) (unhide hgq)) m
              go_quiet (fail)
              go_wp2
              go_ret
              exact ⟨ret_int (unhide HR), unhide hdr _⟩
      · have e2 : (E q 2 == 0) = false := by simp [h2]
        rw [if_pos (.inl h2)] at HR
        clear h2
        go_enter Try.func61, Try.ntmps61
        go_upto_region 1 with fail
        rw [← hW1, ← hR]
        clear hW1 hR
        go_wp2_with fail
        refine (unhide cl).mono ?_
        rintro e y ⟨rfl, hy⟩
        have HY := hide (grown_trans (unhide HG) hy)
        have HYW := hide hy
        clear b0 b1 b2 b3 b4 hy cl
        go_upto_region 2 with fail
        refine wp_region_grown (by kernel_rfl) (by kernel_rfl) ?_
        intro St hN W hI hx
        have b0 := fun σ => (unhide HB (W σ) (grown_trans (unhide HYW) (hI σ))).1
        have b2 := fun σ => (unhide HB (W σ) (grown_trans (unhide HYW) (hI σ))).2.2.1
        have b3 := fun σ => (unhide HB (W σ) (grown_trans (unhide HYW) (hI σ))).2.2.2.1
        have u0 := fun σ => (unhide HH (W σ) (grown_trans (unhide HY) (hI σ))).1
        have u1 := fun σ => (unhide HH (W σ) (grown_trans (unhide HY) (hI σ))).2.1
        have u2 := fun σ => (unhide HH (W σ) (grown_trans (unhide HY) (hI σ))).2.2.1
        have u3 := fun σ => (unhide HH (W σ) (grown_trans (unhide HY) (hI σ))).2.2.2
        have co : ∀ σ, Calls Try.prog 63 #[.agg #[.int .i64 (E q 0), .int .i64 (E q 1), .int .i64 (E q 2), .int .i64 (E q 3)]] (W σ) fun e w'' => e = .returned (.bool (E q 2 == 0)) ∧ ∃ σ', w'' = W σ' := fun σ => calls_class hI hx (tbOpen_any _ _ _ _ _)
        rw [e2] at co
        have hI' := hide hI
        clear hI hx
        repeat (go_big_quiet_step ((go_at_call 63; exact co _)))
        refine wpQuiet_nil ?_
        rintro _ ⟨σ, rfl⟩
        obtain ⟨wq, hwq⟩ : ∃ wq, W σ = wq := ⟨_, rfl⟩
        have hgq := hide (unhide hI' σ)
        rw [hwq] at hgq ⊢
        clear b0 b2 b3 hI' hwq u0 u1 u2 u3 co
        clear σ W hN St
        go_wp2
        go_ret
        exact ⟨ret_int (unhide HR), grown_trans (unhide HY) (unhide hgq)⟩

end Go.Proofs.Ytiegccdgoemamaa
