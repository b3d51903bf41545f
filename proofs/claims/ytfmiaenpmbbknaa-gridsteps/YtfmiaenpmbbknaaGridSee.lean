/-
  The law package's own known, within, full; what is seen, in both packages.
-/
import Derived.Test.YtfmiaenpmbbknaaGridLine
import Derived.Test.YtfmiaenpmbbknaaGridFind
namespace Go.Proofs.Ytfmiaenpmbbknaa
open Go.RowKit

theorem line_known (w : World) : Calls Try.prog 19 #[.int .i64 0, .int .i64 0, .int .i64 2, .int .i64 1] w fun e w' =>
    ∃ a cap, ∃ g : Nat → Int, e = .returned (.slice a 3 cap) ∧ Vec w'.heap.size w' a 3 (Ints g) ∧ g 0 = 0 ∧ g 1 = 25 ∧ g 2 = 26 ∧ Below w.heap.size w w' := by
  refine (line_some 0 0 2 1 w (by decide) (by decide)).mono fun e w' h => ?_
  obtain ⟨a, cap, rfl, hv, _, hb⟩ := h
  exact ⟨a, cap, _, rfl, hv, by decide, by decide, by decide, hb⟩

theorem known_any (w : World) :
    Calls Try.prog 9 #[] w fun e w' => e = .returned (.bool true) ∧ Below w.heap.size w w' := by
  go_enter Try.func9, Try.ntmps9
  go_wp2_with fail
  refine (line_known _).mono ?_
  rintro e w1 ⟨a, cap, g, rfl, hv, g0, g1, g2, hb⟩
  obtain ⟨_, h0 | ⟨b, off, rfl, _, hc⟩⟩ := hv
  · cases h0
  have c0 : w1.cell? ⟨b, off, none⟩ = some (.int .i64 0) := by have := hc 0 (by omega); rw [Nat.add_zero] at this; rw [this]; simp [Ints, g0]
  have c1 : w1.cell? ⟨b, off + 1, none⟩ = some (.int .i64 25) := by rw [hc 1 (by omega)]; simp [Ints, g1]
  have c2 : w1.cell? ⟨b, off + 2, none⟩ = some (.int .i64 26) := by rw [hc 2 (by omega)]; simp [Ints, g2]
  clear hc g0 g1 g2
  go_wp2
  go_ret
  exact ⟨rfl, hb⟩

theorem Gr.within_neg (a n : Int) (hn : 0 < n) (h : a.tmod n < 0) : a.tmod n + n = a % n := by
  have := Int.emod_nonneg a (b := n) (by omega)
  have := Int.emod_lt_of_pos a hn
  have e := Int.emod_eq_tmod (a := a) (b := n)
  by_cases hc : 0 ≤ a ∨ n ∣ a
  · rw [if_pos hc] at e; omega
  · rw [if_neg hc] at e; omega

theorem Gr.within_pos (a n : Int) (hn : 0 < n) (h : ¬ a.tmod n < 0) : a.tmod n = a % n := by
  have := Int.emod_lt_of_pos a hn
  have e := Int.emod_eq_tmod (a := a) (b := n)
  by_cases hc : 0 ≤ a ∨ n ∣ a
  · rw [if_pos hc] at e; omega
  · rw [if_neg hc] at e; omega

set_option maxHeartbeats 400000 in
theorem within_any (a n : Int) (w : World) (hn : 0 < n) (hn2 : n ≤ 4611686018427387904) :
    Calls Try.prog 21 #[.int .i64 a, .int .i64 n] w fun e w' => e = .returned (.int .i64 (a % n)) ∧ w' = w := by
  have t1 := Int.tmod_lt_of_pos a (b := n) hn
  have t2 := Int.lt_tmod_of_pos a (b := n) hn
  have hn0 : (n == 0) = false := by simp; omega
  by_cases h : a.tmod n < 0
  · have ha : ¬ 0 ≤ a := by
      intro h0
      have := Int.tmod_nonneg n h0
      omega
    have hd := hide (Gr.within_neg a n hn h)
    go_enter Try.func21, Try.ntmps21
    go_wp2
    go_ret
    exact ⟨ret_int (unhide hd), rfl⟩
  · have hd := hide (Gr.within_pos a n hn h)
    by_cases ha : 0 ≤ a
    · have e : a.tmod n = a % n := Int.tmod_eq_emod_of_nonneg ha
      have h' : ¬ a % n < 0 := by rw [← e]; exact h
      clear h t1 t2 e
      go_enter Try.func21, Try.ntmps21
      go_wp2
      go_ret
      exact ⟨rfl, rfl⟩
    · go_enter Try.func21, Try.ntmps21
      go_wp2
      go_ret
      exact ⟨ret_int (unhide hd), rfl⟩

theorem within_ex (a n : Int) (w : World) (hn : 0 < n) (hn2 : n ≤ 4611686018427387904) :
    Calls Try.prog 21 #[.int .i64 a, .int .i64 n] w fun e w' => ∃ m : Int, e = .returned (.int .i64 m) ∧ 0 ≤ m ∧ m < n ∧ w' = w := by
  refine (within_any a n w hn hn2).mono fun e w' h => ?_
  obtain ⟨rfl, rfl⟩ := h
  exact ⟨_, rfl, Int.emod_nonneg _ (by omega), Int.emod_lt_of_pos _ hn, rfl⟩

/-- A call hands back a row that it has made, and nothing that was there has turned. -/
def Made (w : World) (T : TypeId) (n : Nat) (F : Nat → Value) (e : Ending) (w' : World) : Prop :=
  ∃ g, e = .returned (.slice (some ⟨g, 0, none⟩) n n) ∧ w.heap.size ≤ g ∧ Arr w' g T n F ∧ Below w.heap.size w w'

def Gr.full (len : Nat) (f : Nat → Int) (i : Nat) : Int := if len = 0 then 0 else f ((i * 7 + i / 9) % len) % 7

theorem Gr.full_bd (len : Nat) (f : Nat → Int) (i : Nat) : 0 ≤ Gr.full len f i ∧ Gr.full len f i ≤ 6 := by
  unfold Gr.full
  split <;> omega

theorem Gr.full_one (f : Nat → Int) (hf : f 0 = 1) (i : Nat) : Gr.full 1 f i = 1 := by
  unfold Gr.full
  rw [if_neg (by omega), Nat.mod_one, hf]
  rfl

theorem info_byte : (Try.prog.info? 5).map (fun i => (i.zero, i.size, i.bytes)) = some (some (.int .u8 0), 1, 1) := by kernel_rfl

theorem fill_byte {g : Nat → Int} {z : Int} {k : Nat} {v : Int} (hv : v = g k) (j : Nat) : (if j = k then Value.int .u8 v else .int .u8 (if j < k then g j else z)) = .int .u8 (if j < k + 1 then g j else z) := by
  by_cases h : j = k
  · rw [if_pos h, if_pos (by omega), hv, h]
  · rw [if_neg h]
    by_cases h2 : j < k
    · rw [if_pos h2, if_pos (by omega)]
    · rw [if_neg h2, if_neg (by omega)]

set_option maxRecDepth 8000 in
set_option maxHeartbeats 800000 in
theorem full_any (B : Nat) (a : Option Addr) (len cap : Nat) (f : Nat → Int) (w : World) (h : Vec B w a len (Byts f)) (hf : ∀ i, 0 ≤ f i ∧ f i ≤ 255) (hB : B ≤ w.heap.size) :
    Calls Try.prog 22 #[.slice a len cap] w (Made w 5 384 (Byts (Gr.full len f))) := by
  have hm : len ≤ 9223372036854775807 := h.1
  obtain ⟨N, hN⟩ : ∃ N : Nat, N = 384 := ⟨_, rfl⟩
  rw [← hN]
  have hN' := hide hN
  clear hN
  obtain ⟨i0, hi, hz0, hz1, hz2⟩ := info_parts info_byte
  have hv := hide h
  have hf' := hide hf
  clear h hf
  go_enter Try.func22, Try.ntmps22
  go_wp2_with (at_make; refine wpList_make_full _ rfl _ _ 22 rfl w.heap.size 5 i0 (.int .u8 0) 1 Try.underlying22 hi hz0 hz1 .i64 .i64 _ _ N rfl rfl ?q1 ?q2 ?q3 ?q4 (Nat.le_refl _) ?_)
  case q1 => have := unhide hN'; omega
  case q2 => have := unhide hN'; omega
  case q3 => have := unhide hN'; rw [hz2]; omega
  case q4 => have := unhide hN'; unfold maxLen; omega
  intro w2 hown hgrow
  have hA := hide (Arr.zero hown)
  have hB0 : Below w.heap.size w w2 := (Below.refl _ _).grown hgrow (Nat.le_refl _) (by intro k hk; cases hk)
  clear hown hgrow hi hz0 hz1 hz2
  obtain ⟨G, hG⟩ : ∃ G, G = w.heap.size := ⟨_, rfl⟩
  rw [← hG] at hA hB0 ⊢
  have hG' := hide hG
  have hBG : B ≤ G := by omega
  clear hG hB
  by_cases hl : len = 0
  · have hd : ∀ i, Gr.full len f i = 0 := fun i => if_pos hl
    have hA2 := hide ((unhide hA).congr (G := Byts (Gr.full len f)) fun i _ => by show _ = Value.int .u8 (Gr.full len f i); rw [hd i])
    clear hd hA
    have hl' : ¬ (0 : Int) < (len : Int) := by omega
    subst hl
    go_wp2_with fail
    refine wp_loop_rounds 1 ?_
    rw [rounds_succ]
    go_wp2
    go_ret
    exact ⟨G, rfl, Nat.le_of_eq (unhide hG').symm, unhide hA2, by rw [← unhide hG']; exact hB0⟩
  · have hl' : (0 : Int) < (len : Int) := by omega
    go_wp2_with fail
    go_loopw [4] (fun i wr => ∃ k : Nat, k ≤ N ∧ i = .int .i64 k ∧ Arr wr G 5 N (fun j => .int .u8 (if j < k then Gr.full len f j else 0)) ∧ Below G w wr) (fun i _ => N - (intOf i).toNat)
    case atStart => exact ⟨0, Nat.zero_le _, rfl, (unhide hA).congr fun j _ => by rw [if_neg (Nat.not_lt_zero _)], hB0⟩
    case round =>
      obtain ⟨k, hk, rfl, hA1, hB1⟩ := hrel
      have hA2 := hide hA1
      clear hA1 hA hB0
      by_cases hlt : k < N
      · obtain ⟨m, hm1⟩ : ∃ m : Nat, m = (k * 7 + k / 9) % len := ⟨_, rfl⟩
        have hm2 : m < len := by rw [hm1]; exact Nat.mod_lt _ (by omega)
        have hm3 : ((k : Int) * 7 + (k : Int) / 9) % (len : Int) = (m : Int) := by
          rw [hm1, Int.natCast_emod]
          congr 1
        have hdd : Hid (f m % 7 = Gr.full len f k) := by
          show f m % 7 = Gr.full len f k
          unfold Gr.full
          rw [if_neg hl, hm1]
        obtain ⟨b, off, rfl, _, hc⟩ := (((unhide hv).mono hBG).kept hB1).at hm2
        have hc' : wr.cell? ⟨b, off + m, none⟩ = some (.int .u8 (f m)) := hc
        obtain ⟨f1, f2⟩ := (unhide hf') m
        have hcc := (unhide hA2).cell hlt
        have hff := (unhide hA2).free k
        have hlt' : (k : Int) < 384 := by have := unhide hN'; omega
        have hlt2 : (k : Int) < (N : Int) := by omega
        have hm2' : (m : Int) < (len : Int) := by omega
        have HL := hide hlt
        clear hc hm1 hlt hk
        go_wp2
        go_roundw
        case rel => exact ⟨k + 1, by have := unhide HL; omega, by go_num, ((unhide hA2).store k _).congr fun j _ => fill_byte (unhide hdd) j, hB1.setCell (Nat.le_refl _) _⟩
        case measure => simp [intOf]; omega
      · have hge : ¬ (k : Int) < 384 := by have := unhide hN'; omega
        have hA3 := hide ((unhide hA2).congr (G := Byts (Gr.full len f)) fun j hj => by rw [if_pos (by omega)]; rfl)
        clear hA2 hlt hk
        go_wp2
        go_ret
        exact ⟨G, rfl, Nat.le_of_eq (unhide hG').symm, unhide hA3, by rw [← unhide hG']; exact hB1⟩

/-- What is seen, as the document says it. -/
def Gr.Sees (len : Nat) (f : Nat → Int) (x0 y0 x1 y1 : Int) : Prop :=
  Gr.inB x0 y0 = true ∧ Gr.inB x1 y1 = true ∧ ∀ k, 0 < k → k < Gr.span x0 y0 x1 y1 → Gr.clearB (Gr.kind len f (Gr.ln x0 y0 x1 y1 k)) = true

def Tells (w : World) (p : Prop) (e : Ending) (w' : World) : Prop := ∃ b, e = .returned (.bool b) ∧ (b = true ↔ p) ∧ Below w.heap.size w w'

theorem Gr.sees_no {len : Nat} {f : Nat → Int} {x0 y0 x1 y1 : Int} (h : Gr.inB x0 y0 = true → Gr.inB x1 y1 = false) : ¬ Gr.Sees len f x0 y0 x1 y1 := by
  rintro ⟨h0, h1, _⟩
  rw [h h0] at h1
  cases h1

set_option maxHeartbeats 800000 in
theorem sees_any (a : Option Addr) (len cap : Nat) (f : Nat → Int) (x0 y0 x1 y1 : Int) (w : World) (h : Vec w.heap.size w a len (Byts f)) (hf : ∀ i, 0 ≤ f i ∧ f i ≤ 255) :
    Calls Try.prog 23 #[.slice a len cap, .int .i64 x0, .int .i64 y0, .int .i64 x1, .int .i64 y1] w (Tells w (Gr.Sees len f x0 y0 x1 y1)) := by
  have hv := hide h
  have hf' := hide hf
  clear h hf
  by_cases hin : Gr.inB x0 y0 = true ∧ Gr.inB x1 y1 = true
  · obtain ⟨h0, h1⟩ := hin
    have hn23 := Gr.span_bd x0 y0 x1 y1 h0 h1
    go_enter Try.func23, Try.ntmps23
    go_wp2_with fail
    refine (line_some _ _ _ _ _ h0 h1).mono ?_
    rintro e w1 ⟨a1, cap1, rfl, hv1, _, hb1⟩
    have hl := hide hv1
    have hv2 := hide ((unhide hv).kept hb1)
    obtain ⟨n, hn⟩ : ∃ n : Nat, n = Gr.span x0 y0 x1 y1 := ⟨_, rfl⟩
    rw [← hn] at hn23 hl ⊢
    have hn' := hide hn
    have hz : ((n : Int) + 1 == 0) = false := by simp; omega
    clear hv hv1 hn
    go_wp2_with fail
    go_loop [12] (fun i => ∃ k : Nat, 1 ≤ k ∧ k ≤ n + 1 ∧ i = .int .i64 k ∧ ∀ j, 0 < j → j < k → j < n → Gr.clearB (Gr.kind len f (Gr.ln x0 y0 x1 y1 j)) = true) (fun i => n + 1 - (intOf i).toNat)
    case atStart => exact ⟨1, by omega, by omega, rfl, fun j h1 h2 _ => by omega⟩
    case round =>
      obtain ⟨k, hk0, hk, rfl, hall⟩ := hrel
      have hall' := hide hall
      clear hall
      by_cases hlt : k < n
      · obtain ⟨b, off, rfl, _, hc⟩ := (unhide hl).at (k := k) (by omega)
        have hc' : w1.cell? ⟨b, off + k, none⟩ = some (.int .i64 (Gr.ln x0 y0 x1 y1 k)) := hc
        obtain ⟨l1, l2⟩ := Gr.ln_bd x0 y0 x1 y1 h0 h1 k (by have := unhide hn'; omega)
        clear hc
        have hlt' : (k : Int) < (n : Int) := by omega
        by_cases hcl : Gr.clearB (Gr.kind len f (Gr.ln x0 y0 x1 y1 k)) = true
        · go_wp2_with (first | (go_at_call 33; refine (kindOf_any _ _ _ _ f _ _ (unhide hv2) (unhide hf') (by omega) (by omega)).mono ?_; rintro e w' ⟨rfl, hw⟩; subst w') | (go_at_call 14; refine (clear_any _ _).mono ?_; rintro e w' ⟨rfl, hw⟩; subst w'))
          go_round
          case rel =>
            refine ⟨k + 1, by omega, by omega, by go_num, fun j g1 g2 g3 => ?_⟩
            by_cases hjk : j = k
            · rw [hjk]; exact hcl
            · exact (unhide hall') j g1 (by omega) g3
          case measure => simp [intOf]; omega
        · have hcl' : Gr.clearB (Gr.kind len f (Gr.ln x0 y0 x1 y1 k)) = false := by simpa using hcl
          have hno : Hid (¬ Gr.Sees len f x0 y0 x1 y1) := by
            show ¬ Gr.Sees len f x0 y0 x1 y1
            rintro ⟨_, _, h⟩
            exact hcl (h k (by omega) (by have := unhide hn'; omega))
          clear hcl
          go_wp2_with (first | (go_at_call 33; refine (kindOf_any _ _ _ _ f _ _ (unhide hv2) (unhide hf') (by omega) (by omega)).mono ?_; rintro e w' ⟨rfl, hw⟩; subst w') | (go_at_call 14; refine (clear_any _ _).mono ?_; rintro e w' ⟨rfl, hw⟩; subst w'))
          go_ret
          exact ⟨false, rfl, ⟨fun h => (by cases h), fun h => absurd h (unhide hno)⟩, hb1⟩
      · have hge : ¬ (k : Int) < (n : Int) := by omega
        have hyes : Hid (Gr.Sees len f x0 y0 x1 y1) := ⟨h0, h1, fun j g1 g2 => (unhide hall') j g1 (by have := unhide hn'; omega) (by have := unhide hn'; omega)⟩
        go_wp2
        go_ret
        exact ⟨true, rfl, ⟨fun _ => unhide hyes, fun _ => rfl⟩, hb1⟩
  · have hno : Gr.inB x0 y0 = true → Gr.inB x1 y1 = false := fun h0 => by simpa using fun h1 => hin ⟨h0, h1⟩
    have hns := hide (Gr.sees_no (len := len) (f := f) hno)
    clear hin
    go_enter Try.func23, Try.ntmps23
    go_wp2_with fail
    refine (line_none _ _ _ _ _ hno).mono ?_
    rintro e w' ⟨rfl, hw⟩
    subst w'
    go_wp2
    go_ret
    exact ⟨false, rfl, ⟨fun h => (by cases h), fun h => absurd h (unhide hns)⟩, Below.refl _ _⟩

set_option maxHeartbeats 800000 in
theorem refSees_any (a : Option Addr) (len cap : Nat) (f : Nat → Int) (x0 y0 x1 y1 : Int) (w : World) (h : Vec w.heap.size w a len (Byts f)) (hf : ∀ i, 0 ≤ f i ∧ f i ≤ 255) :
    Calls Try.prog 24 #[.slice a len cap, .int .i64 x0, .int .i64 y0, .int .i64 x1, .int .i64 y1] w (Tells w (Gr.Sees len f x0 y0 x1 y1)) := by
  have hv := hide h
  have hf' := hide hf
  clear h hf
  by_cases hin : Gr.inB x0 y0 = true ∧ Gr.inB x1 y1 = true
  · obtain ⟨h0, h1⟩ := hin
    have hn23 := Gr.span_bd x0 y0 x1 y1 h0 h1
    go_enter Try.func24, Try.ntmps24
    go_wp2_with fail
    refine (refLine_some _ _ _ _ _ h0 h1).mono ?_
    rintro e w1 ⟨a1, cap1, rfl, hv1, _, hb1⟩
    have hl := hide hv1
    have hv2 := hide ((unhide hv).kept hb1)
    obtain ⟨n, hn⟩ : ∃ n : Nat, n = Gr.span x0 y0 x1 y1 := ⟨_, rfl⟩
    rw [← hn] at hn23 hl ⊢
    have hn' := hide hn
    obtain ⟨B1, hB1⟩ : ∃ B, B = w1.heap.size := ⟨_, rfl⟩
    rw [← hB1] at hl
    have hwB : w.heap.size ≤ B1 := by rw [hB1]; exact hb1.size
    clear hv hv1 hn hB1
    go_wp2_with fail
    go_loopw [12] (fun i wr => ∃ k : Nat, 1 ≤ k ∧ k ≤ n + 1 ∧ i = .int .i64 k ∧ (∀ j, 0 < j → j < k → j < n → Gr.clearB (Gr.kind len f (Gr.ln x0 y0 x1 y1 j)) = true) ∧ Vec B1 wr a1 (n + 1) (Ints (Gr.ln x0 y0 x1 y1)) ∧ Vec w.heap.size wr a len (Byts f) ∧ Below w.heap.size w wr) (fun i _ => n + 1 - (intOf i).toNat)
    case atStart => exact ⟨1, by omega, by omega, rfl, fun j h1 h2 _ => by omega, unhide hl, unhide hv2, hb1⟩
    case round =>
      obtain ⟨k, hk0, hk, rfl, hall, hl1, hv1, hbr⟩ := hrel
      have hall' := hide hall
      have hl2 := hide hl1
      have hv3 := hide hv1
      clear hall hl1 hv1 hv2 hl hb1
      by_cases hlt : k < n
      · obtain ⟨b, off, rfl, _, hc⟩ := (unhide hl2).at (k := k) (by omega)
        have hc' : wr.cell? ⟨b, off + k, none⟩ = some (.int .i64 (Gr.ln x0 y0 x1 y1 k)) := hc
        obtain ⟨l1, l2⟩ := Gr.ln_bd x0 y0 x1 y1 h0 h1 k (by have := unhide hn'; omega)
        obtain ⟨c, hcc⟩ : ∃ c, c = Gr.ln x0 y0 x1 y1 k := ⟨_, rfl⟩
        rw [← hcc] at hc' l1 l2
        have hkd := hide (Gr.kind_at len f c l1)
        have hc24 : c.tmod 24 = c % 24 := Int.tmod_eq_emod_of_nonneg l1
        have hq24 : IntKind.i64.wrap (c.tdiv 24) = c / 24 := by rw [Int.tdiv_eq_ediv_of_nonneg l1]; rw [IntKind.wrap_i64]; omega
        have hC := hide hcc
        clear hc hcc
        have hlt' : (k : Int) + 1 < (n : Int) + 1 := by omega
        have hlt2 : (k : Int) < (n : Int) + 1 := by omega
        by_cases hcl : Gr.clearB (Gr.kind len f c) = true
        · have hcl2 : Gr.clearB (Gr.at len f (c % 24) (c / 24)) = true := by rw [unhide hkd]; exact hcl
          go_wp2_with fail
          go_quiet (first | (go_at_call 11; refine Calls.quiet_of_same (refAt_any w.heap.size _ _ _ f _ _ _ ?_ (unhide hf')); exact (unhide hv3).drew _) | (go_at_call 15; refine Calls.quiet_of_same (refClear_any _ _)))
          go_wp2
          go_roundw
          case rel =>
            refine ⟨k + 1, by omega, by omega, by go_num, fun j g1 g2 g3 => ?_, (unhide hl2).drew _, (unhide hv3).drew _, below_drewN hbr _⟩
            by_cases hjk : j = k
            · rw [hjk, ← unhide hC]; exact hcl
            · exact (unhide hall') j g1 (by omega) g3
          case measure => simp [intOf]; omega
        · have hcl' : Gr.clearB (Gr.at len f (c % 24) (c / 24)) = false := by rw [unhide hkd]; simpa using hcl
          have hno : Hid (¬ Gr.Sees len f x0 y0 x1 y1) := by
            show ¬ Gr.Sees len f x0 y0 x1 y1
            rintro ⟨_, _, h⟩
            exact hcl (by rw [unhide hC]; exact h k (by omega) (by have := unhide hn'; omega))
          clear hcl
          go_wp2_with fail
          go_quiet (first | (go_at_call 11; refine Calls.quiet_of_same (refAt_any w.heap.size _ _ _ f _ _ _ ?_ (unhide hf')); exact (unhide hv3).drew _) | (go_at_call 15; refine Calls.quiet_of_same (refClear_any _ _)))
          go_wp2
          go_ret
          exact ⟨false, rfl, ⟨fun h => (by cases h), fun h => absurd h (unhide hno)⟩, below_drewN hbr _⟩
      · have hge : ¬ (k : Int) + 1 < (n : Int) + 1 := by omega
        have hyes : Hid (Gr.Sees len f x0 y0 x1 y1) := ⟨h0, h1, fun j g1 g2 => (unhide hall') j g1 (by have := unhide hn'; omega) (by have := unhide hn'; omega)⟩
        have hpos : (0 : Int) < (n : Int) + 1 := by omega
        go_wp2
        go_ret
        exact ⟨true, rfl, ⟨fun _ => unhide hyes, fun _ => rfl⟩, hbr⟩
  · have hno : Gr.inB x0 y0 = true → Gr.inB x1 y1 = false := fun h0 => by simpa using fun h1 => hin ⟨h0, h1⟩
    have hns := hide (Gr.sees_no (len := len) (f := f) hno)
    clear hin
    go_enter Try.func24, Try.ntmps24
    go_wp2_with fail
    refine (refLine_none _ _ _ _ _ hno).mono ?_
    rintro e w' ⟨rfl, hw⟩
    subst w'
    go_wp2_with fail
    refine wp_loop_rounds 1 ?_
    rw [rounds_succ]
    go_wp2
    go_ret
    exact ⟨false, rfl, ⟨fun h => (by cases h), fun h => absurd h (unhide hns)⟩, Below.refl _ _⟩

def Gr.lineLen (x0 y0 x1 y1 : Int) : Nat := if Gr.inB x0 y0 = true ∧ Gr.inB x1 y1 = true then Gr.span x0 y0 x1 y1 + 1 else 0

theorem line_all (x0 y0 x1 y1 : Int) (w : World) :
    Calls Try.prog 19 #[.int .i64 x0, .int .i64 y0, .int .i64 x1, .int .i64 y1] w (Gives w (Gr.lineLen x0 y0 x1 y1) (Ints (Gr.ln x0 y0 x1 y1))) := by
  by_cases h : Gr.inB x0 y0 = true ∧ Gr.inB x1 y1 = true
  · rw [show Gr.lineLen x0 y0 x1 y1 = Gr.span x0 y0 x1 y1 + 1 from if_pos h]
    exact line_some _ _ _ _ _ h.1 h.2
  · rw [show Gr.lineLen x0 y0 x1 y1 = 0 from if_neg h]
    refine (line_none _ _ _ _ _ fun h0 => by simpa using fun h1 => h ⟨h0, h1⟩).mono fun e w' hh => ?_
    obtain ⟨rfl, rfl⟩ := hh
    exact ⟨none, 0, rfl, ⟨Nat.zero_le _, .inl rfl⟩, Nat.le_refl _, Below.refl _ _⟩

theorem refLine_all (x0 y0 x1 y1 : Int) (w : World) :
    Calls Try.prog 20 #[.int .i64 x0, .int .i64 y0, .int .i64 x1, .int .i64 y1] w (Gives w (Gr.lineLen x0 y0 x1 y1) (Ints (Gr.ln x0 y0 x1 y1))) := by
  by_cases h : Gr.inB x0 y0 = true ∧ Gr.inB x1 y1 = true
  · rw [show Gr.lineLen x0 y0 x1 y1 = Gr.span x0 y0 x1 y1 + 1 from if_pos h]
    exact refLine_some _ _ _ _ _ h.1 h.2
  · rw [show Gr.lineLen x0 y0 x1 y1 = 0 from if_neg h]
    refine (refLine_none _ _ _ _ _ fun h0 => by simpa using fun h1 => h ⟨h0, h1⟩).mono fun e w' hh => ?_
    obtain ⟨rfl, rfl⟩ := hh
    exact ⟨none, 0, rfl, ⟨Nat.zero_le _, .inl rfl⟩, Nat.le_refl _, Below.refl _ _⟩

end Go.Proofs.Ytfmiaenpmbbknaa
