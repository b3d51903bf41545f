/-
  The law package's own known, within, full; what is seen, in both packages.
  Fields, as numbers: what a field of steps is, that there is but one, and that going out from the targets, cell by cell in the order in which they are reached, makes it.
  Free cells; and what the two steps of a field need: memory that is turned in one block alone.
  What each function of package dice, and of the document's own chapter said again, answers: one contract a function. Both mix by the same function of numbers, 'Dc.mix'; none of them touches the world.
  What gen's small functions answer, in the program and in the document said again: numbers of cells, dice, one step nearer, what a monster is. They make memory of their own; nothing that was there turns.
-/
import Derived.Test.YtbploaihicakeaaPart01
import Derived.Handy
namespace Go.Proofs.Ytbploaihicakeaa
open Go.RowKit

theorem line_known (w : World) : Calls Try.prog 93 #[.int .i64 0, .int .i64 0, .int .i64 2, .int .i64 1] w fun e w' =>
    ∃ a cap, ∃ g : Nat → Int, e = .returned (.slice a 3 cap) ∧ Vec w'.heap.size w' a 3 (Ints g) ∧ g 0 = 0 ∧ g 1 = 25 ∧ g 2 = 26 ∧ Below w.heap.size w w' := by
  refine (line_some 0 0 2 1 w (by decide) (by decide)).mono fun e w' h => ?_
  obtain ⟨a, cap, rfl, hv, _, hb⟩ := h
  exact ⟨a, cap, _, rfl, hv, by decide, by decide, by decide, hb⟩

theorem Gr.within_neg (a n : Int) (hn : 0 < n) (h : a.tmod n < 0) : a.tmod n + n = a % n := by
  have := Int.emod_nonneg a (b := n) (by omega)
  have := Int.emod_lt_of_pos a hn
  have e := Int.emod_eq_tmod (a := a) (b := n)
  by_cases hc : 0 ≤ a ∨ n ∣ a
  · rw [if_pos hc] at e; omega
  · rw [if_neg hc] at e; omega

theorem Gr.within_pos (a n : Int) (hn : 0 < n) (h : ¬ a.tmod n < 0) : a.tmod n = a % n := by
  have := Int.emod_lt_of_pos a hn
  have e := Int.emod_eq_tmod (a := a) (b := n)
  by_cases hc : 0 ≤ a ∨ n ∣ a
  · rw [if_pos hc] at e; omega
  · rw [if_neg hc] at e; omega

/-- A call hands back a row that it has made, and nothing that was there has turned. -/
def Made (w : World) (T : TypeId) (n : Nat) (F : Nat → Value) (e : Ending) (w' : World) : Prop :=
  ∃ g, e = .returned (.slice (some ⟨g, 0, none⟩) n n) ∧ w.heap.size ≤ g ∧ Arr w' g T n F ∧ Below w.heap.size w w'

def Gr.full (len : Nat) (f : Nat → Int) (i : Nat) : Int := if len = 0 then 0 else f ((i * 7 + i / 9) % len) % 7

theorem Gr.full_bd (len : Nat) (f : Nat → Int) (i : Nat) : 0 ≤ Gr.full len f i ∧ Gr.full len f i ≤ 6 := by
  unfold Gr.full
  split <;> omega

theorem Gr.full_one (f : Nat → Int) (hf : f 0 = 1) (i : Nat) : Gr.full 1 f i = 1 := by
  unfold Gr.full
  rw [if_neg (by omega), Nat.mod_one, hf]
  rfl

theorem info_byte : (Try.prog.info? 5).map (fun i => (i.zero, i.size, i.bytes)) = some (some (.int .u8 0), 1, 1) := by kernel_rfl

theorem fill_byte {g : Nat → Int} {z : Int} {k : Nat} {v : Int} (hv : v = g k) (j : Nat) : (if j = k then Value.int .u8 v else .int .u8 (if j < k then g j else z)) = .int .u8 (if j < k + 1 then g j else z) := by
  by_cases h : j = k
  · rw [if_pos h, if_pos (by omega), hv, h]
  · rw [if_neg h]
    by_cases h2 : j < k
    · rw [if_pos h2, if_pos (by omega)]
    · rw [if_neg h2, if_neg (by omega)]

/-- What is seen, as the document says it. -/
def Gr.Sees (len : Nat) (f : Nat → Int) (x0 y0 x1 y1 : Int) : Prop :=
  Gr.inB x0 y0 = true ∧ Gr.inB x1 y1 = true ∧ ∀ k, 0 < k → k < Gr.span x0 y0 x1 y1 → Gr.clearB (Gr.kind len f (Gr.ln x0 y0 x1 y1 k)) = true

def Tells (w : World) (p : Prop) (e : Ending) (w' : World) : Prop := ∃ b, e = .returned (.bool b) ∧ (b = true ↔ p) ∧ Below w.heap.size w w'

theorem Gr.sees_no {len : Nat} {f : Nat → Int} {x0 y0 x1 y1 : Int} (h : Gr.inB x0 y0 = true → Gr.inB x1 y1 = false) : ¬ Gr.Sees len f x0 y0 x1 y1 := by
  rintro ⟨h0, h1, _⟩
  rw [h h0] at h1
  cases h1

set_option maxHeartbeats 800000 in
theorem sees_any (a : Option Addr) (len cap : Nat) (f : Nat → Int) (x0 y0 x1 y1 : Int) (w : World) (h : Vec w.heap.size w a len (Byts f)) (hf : ∀ i, 0 ≤ f i ∧ f i ≤ 255) :
    Calls Try.prog 79 #[.slice a len cap, .int .i64 x0, .int .i64 y0, .int .i64 x1, .int .i64 y1] w (Tells w (Gr.Sees len f x0 y0 x1 y1)) := by
  have hv := hide h
  have hf' := hide hf
  clear h hf
  by_cases hin : Gr.inB x0 y0 = true ∧ Gr.inB x1 y1 = true
  · obtain ⟨h0, h1⟩ := hin
    have hn23 := Gr.span_bd x0 y0 x1 y1 h0 h1
    go_enter Try.func79, Try.ntmps79
    go_wp2_with fail
    refine (line_some _ _ _ _ _ h0 h1).mono ?_
    rintro e w1 ⟨a1, cap1, rfl, hv1, _, hb1⟩
    have hl := hide hv1
    have hv2 := hide ((unhide hv).kept hb1)
    obtain ⟨n, hn⟩ : ∃ n : Nat, n = Gr.span x0 y0 x1 y1 := ⟨_, rfl⟩
    rw [← hn] at hn23 hl ⊢
    have hn' := hide hn
    have hz : ((n : Int) + 1 == 0) = false := by simp; omega
    clear hv hv1 hn
    go_wp2_with fail
    go_loop [12] (fun i => ∃ k : Nat, 1 ≤ k ∧ k ≤ n + 1 ∧ i = .int .i64 k ∧ ∀ j, 0 < j → j < k → j < n → Gr.clearB (Gr.kind len f (Gr.ln x0 y0 x1 y1 j)) = true) (fun i => n + 1 - (intOf i).toNat)
    case atStart => exact ⟨1, by omega, by omega, rfl, fun j h1 h2 _ => by omega⟩
    case round =>
      obtain ⟨k, hk0, hk, rfl, hall⟩ := hrel
      have hall' := hide hall
      clear hall
      by_cases hlt : k < n
      · obtain ⟨b, off, rfl, _, hc⟩ := (unhide hl).at (k := k) (by omega)
        have hc' : w1.cell? ⟨b, off + k, none⟩ = some (.int .i64 (Gr.ln x0 y0 x1 y1 k)) := hc
        obtain ⟨l1, l2⟩ := Gr.ln_bd x0 y0 x1 y1 h0 h1 k (by have := unhide hn'; omega)
        clear hc
        have hlt' : (k : Int) < (n : Int) := by omega
        by_cases hcl : Gr.clearB (Gr.kind len f (Gr.ln x0 y0 x1 y1 k)) = true
        · go_wp2_with (first | (go_at_call 95; refine (kindOf_any _ _ _ _ f _ _ (unhide hv2) (unhide hf') (by omega) (by omega)).mono ?_; rintro e w' ⟨rfl, hw⟩; subst w') | (go_at_call 94; refine (clear_any _ _).mono ?_; rintro e w' ⟨rfl, hw⟩; subst w'))
          go_round
          case rel =>
            refine ⟨k + 1, by omega, by omega, by go_num, fun j g1 g2 g3 => ?_⟩
            by_cases hjk : j = k
            · rw [hjk]; exact hcl
            · exact (unhide hall') j g1 (by omega) g3
          case measure => simp [intOf]; omega
        · have hcl' : Gr.clearB (Gr.kind len f (Gr.ln x0 y0 x1 y1 k)) = false := by simpa using hcl
          have hno : Hid (¬ Gr.Sees len f x0 y0 x1 y1) := by
            show ¬ Gr.Sees len f x0 y0 x1 y1
            rintro ⟨_, _, h⟩
            exact hcl (h k (by omega) (by have := unhide hn'; omega))
          clear hcl
          go_wp2_with (first | (go_at_call 95; refine (kindOf_any _ _ _ _ f _ _ (unhide hv2) (unhide hf') (by omega) (by omega)).mono ?_; rintro e w' ⟨rfl, hw⟩; subst w') | (go_at_call 94; refine (clear_any _ _).mono ?_; rintro e w' ⟨rfl, hw⟩; subst w'))
          go_ret
          exact ⟨false, rfl, ⟨fun h => (by cases h), fun h => absurd h (unhide hno)⟩, hb1⟩
      · have hge : ¬ (k : Int) < (n : Int) := by omega
        have hyes : Hid (Gr.Sees len f x0 y0 x1 y1) := ⟨h0, h1, fun j g1 g2 => (unhide hall') j g1 (by have := unhide hn'; omega) (by have := unhide hn'; omega)⟩
        go_wp2
        go_ret
        exact ⟨true, rfl, ⟨fun _ => unhide hyes, fun _ => rfl⟩, hb1⟩
  · have hno : Gr.inB x0 y0 = true → Gr.inB x1 y1 = false := fun h0 => by simpa using fun h1 => hin ⟨h0, h1⟩
    have hns := hide (Gr.sees_no (len := len) (f := f) hno)
    clear hin
    go_enter Try.func79, Try.ntmps79
    go_wp2_with fail
    refine (line_none _ _ _ _ _ hno).mono ?_
    rintro e w' ⟨rfl, hw⟩
    subst w'
    go_wp2
    go_ret
    exact ⟨false, rfl, ⟨fun h => (by cases h), fun h => absurd h (unhide hns)⟩, Below.refl _ _⟩

set_option maxHeartbeats 800000 in
theorem refSees_any (a : Option Addr) (len cap : Nat) (f : Nat → Int) (x0 y0 x1 y1 : Int) (w : World) (h : Vec w.heap.size w a len (Byts f)) (hf : ∀ i, 0 ≤ f i ∧ f i ≤ 255) :
    Calls Try.prog 29 #[.slice a len cap, .int .i64 x0, .int .i64 y0, .int .i64 x1, .int .i64 y1] w (Tells w (Gr.Sees len f x0 y0 x1 y1)) := by
  have hv := hide h
  have hf' := hide hf
  clear h hf
  by_cases hin : Gr.inB x0 y0 = true ∧ Gr.inB x1 y1 = true
  · obtain ⟨h0, h1⟩ := hin
    have hn23 := Gr.span_bd x0 y0 x1 y1 h0 h1
    go_enter Try.func29, Try.ntmps29
    go_wp2_with fail
    refine (refLine_some _ _ _ _ _ h0 h1).mono ?_
    rintro e w1 ⟨a1, cap1, rfl, hv1, _, hb1⟩
    have hl := hide hv1
    have hv2 := hide ((unhide hv).kept hb1)
    obtain ⟨n, hn⟩ : ∃ n : Nat, n = Gr.span x0 y0 x1 y1 := ⟨_, rfl⟩
    rw [← hn] at hn23 hl ⊢
    have hn' := hide hn
    obtain ⟨B1, hB1⟩ : ∃ B, B = w1.heap.size := ⟨_, rfl⟩
    rw [← hB1] at hl
    have hwB : w.heap.size ≤ B1 := by rw [hB1]; exact hb1.size
    clear hv hv1 hn hB1
    go_wp2_with fail
    go_loopw [12] (fun i wr => ∃ k : Nat, 1 ≤ k ∧ k ≤ n + 1 ∧ i = .int .i64 k ∧ (∀ j, 0 < j → j < k → j < n → Gr.clearB (Gr.kind len f (Gr.ln x0 y0 x1 y1 j)) = true) ∧ Vec B1 wr a1 (n + 1) (Ints (Gr.ln x0 y0 x1 y1)) ∧ Vec w.heap.size wr a len (Byts f) ∧ Below w.heap.size w wr) (fun i _ => n + 1 - (intOf i).toNat)
    case atStart => exact ⟨1, by omega, by omega, rfl, fun j h1 h2 _ => by omega, unhide hl, unhide hv2, hb1⟩
    case round =>
      obtain ⟨k, hk0, hk, rfl, hall, hl1, hv1, hbr⟩ := hrel
      have hall' := hide hall
      have hl2 := hide hl1
      have hv3 := hide hv1
      clear hall hl1 hv1 hv2 hl hb1
      by_cases hlt : k < n
      · obtain ⟨b, off, rfl, _, hc⟩ := (unhide hl2).at (k := k) (by omega)
        have hc' : wr.cell? ⟨b, off + k, none⟩ = some (.int .i64 (Gr.ln x0 y0 x1 y1 k)) := hc
        obtain ⟨l1, l2⟩ := Gr.ln_bd x0 y0 x1 y1 h0 h1 k (by have := unhide hn'; omega)
        obtain ⟨c, hcc⟩ : ∃ c, c = Gr.ln x0 y0 x1 y1 k := ⟨_, rfl⟩
        rw [← hcc] at hc' l1 l2
        have hkd := hide (Gr.kind_at len f c l1)
        have hc24 : c.tmod 24 = c % 24 := Int.tmod_eq_emod_of_nonneg l1
        have hq24 : IntKind.i64.wrap (c.tdiv 24) = c / 24 := by rw [Int.tdiv_eq_ediv_of_nonneg l1]; rw [IntKind.wrap_i64]; omega
        have hC := hide hcc
        clear hc hcc
        have hlt' : (k : Int) + 1 < (n : Int) + 1 := by omega
        have hlt2 : (k : Int) < (n : Int) + 1 := by omega
        by_cases hcl : Gr.clearB (Gr.kind len f c) = true
        · have hcl2 : Gr.clearB (Gr.at len f (c % 24) (c / 24)) = true := by rw [unhide hkd]; exact hcl
          go_wp2_with fail
          go_quiet (first | (go_at_call 19; refine Calls.quiet_of_same (refAt_any w.heap.size _ _ _ f _ _ _ ?_ (unhide hf')); exact (unhide hv3).drew _) | (go_at_call 44; refine Calls.quiet_of_same (refClear_any _ _)))
          go_wp2
          go_roundw
          case rel =>
            refine ⟨k + 1, by omega, by omega, by go_num, fun j g1 g2 g3 => ?_, (unhide hl2).drew _, (unhide hv3).drew _, below_drewN hbr _⟩
            by_cases hjk : j = k
            · rw [hjk, ← unhide hC]; exact hcl
            · exact (unhide hall') j g1 (by omega) g3
          case measure => simp [intOf]; omega
        · have hcl' : Gr.clearB (Gr.at len f (c % 24) (c / 24)) = false := by rw [unhide hkd]; simpa using hcl
          have hno : Hid (¬ Gr.Sees len f x0 y0 x1 y1) := by
            show ¬ Gr.Sees len f x0 y0 x1 y1
            rintro ⟨_, _, h⟩
            exact hcl (by rw [unhide hC]; exact h k (by omega) (by have := unhide hn'; omega))
          clear hcl
          go_wp2_with fail
          go_quiet (first | (go_at_call 19; refine Calls.quiet_of_same (refAt_any w.heap.size _ _ _ f _ _ _ ?_ (unhide hf')); exact (unhide hv3).drew _) | (go_at_call 44; refine Calls.quiet_of_same (refClear_any _ _)))
          go_wp2
          go_ret
          exact ⟨false, rfl, ⟨fun h => (by cases h), fun h => absurd h (unhide hno)⟩, below_drewN hbr _⟩
      · have hge : ¬ (k : Int) + 1 < (n : Int) + 1 := by omega
        have hyes : Hid (Gr.Sees len f x0 y0 x1 y1) := ⟨h0, h1, fun j g1 g2 => (unhide hall') j g1 (by have := unhide hn'; omega) (by have := unhide hn'; omega)⟩
        have hpos : (0 : Int) < (n : Int) + 1 := by omega
        go_wp2
        go_ret
        exact ⟨true, rfl, ⟨fun _ => unhide hyes, fun _ => rfl⟩, hbr⟩
  · have hno : Gr.inB x0 y0 = true → Gr.inB x1 y1 = false := fun h0 => by simpa using fun h1 => hin ⟨h0, h1⟩
    have hns := hide (Gr.sees_no (len := len) (f := f) hno)
    clear hin
    go_enter Try.func29, Try.ntmps29
    go_wp2_with fail
    refine (refLine_none _ _ _ _ _ hno).mono ?_
    rintro e w' ⟨rfl, hw⟩
    subst w'
    go_wp2_with fail
    refine wp_loop_rounds 1 ?_
    rw [rounds_succ]
    go_wp2
    go_ret
    exact ⟨false, rfl, ⟨fun h => (by cases h), fun h => absurd h (unhide hns)⟩, Below.refl _ _⟩

def Gr.lineLen (x0 y0 x1 y1 : Int) : Nat := if Gr.inB x0 y0 = true ∧ Gr.inB x1 y1 = true then Gr.span x0 y0 x1 y1 + 1 else 0

theorem line_all (x0 y0 x1 y1 : Int) (w : World) :
    Calls Try.prog 93 #[.int .i64 x0, .int .i64 y0, .int .i64 x1, .int .i64 y1] w (Gives w (Gr.lineLen x0 y0 x1 y1) (Ints (Gr.ln x0 y0 x1 y1))) := by
  by_cases h : Gr.inB x0 y0 = true ∧ Gr.inB x1 y1 = true
  · rw [show Gr.lineLen x0 y0 x1 y1 = Gr.span x0 y0 x1 y1 + 1 from if_pos h]
    exact line_some _ _ _ _ _ h.1 h.2
  · rw [show Gr.lineLen x0 y0 x1 y1 = 0 from if_neg h]
    refine (line_none _ _ _ _ _ fun h0 => by simpa using fun h1 => h ⟨h0, h1⟩).mono fun e w' hh => ?_
    obtain ⟨rfl, rfl⟩ := hh
    exact ⟨none, 0, rfl, ⟨Nat.zero_le _, .inl rfl⟩, Nat.le_refl _, Below.refl _ _⟩

theorem refLine_all (x0 y0 x1 y1 : Int) (w : World) :
    Calls Try.prog 43 #[.int .i64 x0, .int .i64 y0, .int .i64 x1, .int .i64 y1] w (Gives w (Gr.lineLen x0 y0 x1 y1) (Ints (Gr.ln x0 y0 x1 y1))) := by
  by_cases h : Gr.inB x0 y0 = true ∧ Gr.inB x1 y1 = true
  · rw [show Gr.lineLen x0 y0 x1 y1 = Gr.span x0 y0 x1 y1 + 1 from if_pos h]
    exact refLine_some _ _ _ _ _ h.1 h.2
  · rw [show Gr.lineLen x0 y0 x1 y1 = 0 from if_neg h]
    refine (refLine_none _ _ _ _ _ fun h0 => by simpa using fun h1 => h ⟨h0, h1⟩).mono fun e w' hh => ?_
    obtain ⟨rfl, rfl⟩ := hh
    exact ⟨none, 0, rfl, ⟨Nat.zero_le _, .inl rfl⟩, Nat.le_refl _, Below.refl _ _⟩

end Go.Proofs.Ytbploaihicakeaa

namespace Go.Proofs.Ytbploaihicakeaa

namespace Gr

def dxOf : Nat → Int | 1 => 1 | 3 => -1 | _ => 0
def dyOf : Nat → Int | 0 => -1 | 2 => 1 | _ => 0

/-- Is there a cell beside cell i, in direction d? -/
def nbIn (i d : Nat) : Prop := 0 ≤ (i % 24 : Nat) + dxOf d ∧ (i % 24 : Nat) + dxOf d < 24 ∧ 0 ≤ (i / 24 : Nat) + dyOf d ∧ (i / 24 : Nat) + dyOf d < 16
def nbOf (i d : Nat) : Nat := (((i / 24 : Nat) + dyOf d) * 24 + ((i % 24 : Nat) + dxOf d)).toNat

theorem nb_eq {i d : Nat} (h : nbIn i d) : ((nbOf i d : Nat) : Int) = ((i / 24 : Nat) + dyOf d) * 24 + ((i % 24 : Nat) + dxOf d) := by
  unfold nbIn at h; unfold nbOf; omega

theorem nb_lt {i d : Nat} (h : nbIn i d) : nbOf i d < 384 := by
  have := nb_eq h
  unfold nbIn at h; omega

def opp : Nat → Nat | 0 => 2 | 1 => 3 | 2 => 0 | _ => 1

theorem opp_lt {d : Nat} (h : d < 4) : opp d < 4 := by
  match d, h with
  | 0, _ | 1, _ | 2, _ | 3, _ => decide

/-- The other way about. -/
theorem nb_back {i d : Nat} (hi : i < 384) (hd : d < 4) (h : nbIn i d) : nbIn (nbOf i d) (opp d) ∧ nbOf (nbOf i d) (opp d) = i := by
  have e := nb_eq h
  have key : nbIn (nbOf i d) (opp d) ∧ ((nbOf i d / 24 : Nat) + dyOf (opp d)) * 24 + ((nbOf i d % 24 : Nat) + dxOf (opp d)) = (i : Int) := by
    unfold nbIn at *
    generalize nbOf i d = n at *
    match d, hd with
    | 0, _ => simp only [dxOf, dyOf, opp] at *; omega
    | 1, _ => simp only [dxOf, dyOf, opp] at *; omega
    | 2, _ => simp only [dxOf, dyOf, opp] at *; omega
    | 3, _ => simp only [dxOf, dyOf, opp] at *; omega
  refine ⟨key.1, ?_⟩
  have := nb_eq key.1
  omega

/-- What a field of steps is: 0 at the targets alone; beside each greater one, which is open, one that is one less; and from each that is reached all open ones beside are reached, at one step more at most. -/
structure IsField (op tg : Nat → Prop) (F : Nat → Int) : Prop where
  lo : ∀ i, i < 384 → -1 ≤ F i
  zero : ∀ i, i < 384 → (F i = 0 ↔ tg i)
  back : ∀ i, i < 384 → 0 < F i → op i ∧ ∃ j d, j < 384 ∧ d < 4 ∧ nbIn j d ∧ nbOf j d = i ∧ F j = F i - 1
  fwd : ∀ j, j < 384 → 0 ≤ F j → ∀ d, d < 4 → nbIn j d → op (nbOf j d) → 0 ≤ F (nbOf j d) ∧ F (nbOf j d) ≤ F j + 1

theorem IsField.le {op tg : Nat → Prop} {F H : Nat → Int} (hF : IsField op tg F) (hH : IsField op tg H) : ∀ (n : Nat) (i : Nat), i < 384 → F i = n → 0 ≤ H i ∧ H i ≤ n := by
  intro n
  induction n with
  | zero =>
    intro i hi h
    have : H i = 0 := (hH.zero i hi).2 ((hF.zero i hi).1 h)
    omega
  | succ n ih =>
    intro i hi h
    obtain ⟨hop, j, d, hj, hd, hn, rfl, he⟩ := hF.back i hi (by omega)
    have hj2 := ih j hj (by omega)
    have := hH.fwd j hj hj2.1 d hd hn hop
    omega

/-- There is but one. -/
theorem IsField.one {op tg : Nat → Prop} {F H : Nat → Int} (hF : IsField op tg F) (hH : IsField op tg H) (i : Nat) (hi : i < 384) : F i = H i := by
  have l1 := hF.lo i hi
  have l2 := hH.lo i hi
  by_cases h : 0 ≤ F i
  · have a := hF.le hH (F i).toNat i hi (by omega)
    have b := hH.le hF (H i).toNat i hi (by omega)
    omega
  · by_cases h2 : 0 ≤ H i
    · have b := hH.le hF (H i).toNat i hi (by omega)
      omega
    · omega

/-- How many of the first n are reached. -/
def cnt (F : Nat → Int) : Nat → Nat
  | 0 => 0
  | n + 1 => cnt F n + if 0 ≤ F n then 1 else 0

theorem cnt_le (F : Nat → Int) (n : Nat) : cnt F n ≤ n := by
  induction n with
  | zero => exact Nat.le_refl _
  | succ n ih => unfold cnt; split <;> omega

theorem cnt_same (F H : Nat → Int) (n : Nat) (h : ∀ i, i < n → (0 ≤ F i ↔ 0 ≤ H i)) : cnt F n = cnt H n := by
  induction n with
  | zero => rfl
  | succ n ih =>
    unfold cnt
    rw [ih fun i hi => h i (by omega)]
    have := h n (by omega)
    by_cases hn : 0 ≤ F n
    · rw [if_pos hn, if_pos (this.1 hn)]
    · rw [if_neg hn, if_neg fun hh => hn (this.2 hh)]

def upd (F : Nat → Int) (b : Nat) (v : Int) (i : Nat) : Int := if i = b then v else F i

theorem upd_at (F : Nat → Int) (b : Nat) (v : Int) : upd F b v b = v := if_pos rfl
theorem upd_ne (F : Nat → Int) {b i : Nat} (v : Int) (h : i ≠ b) : upd F b v i = F i := if_neg h

theorem cnt_upd (F : Nat → Int) (b : Nat) (v : Int) (n : Nat) (hb : b < n) (h0 : F b < 0) (hv : 0 ≤ v) : cnt (upd F b v) n = cnt F n + 1 := by
  induction n with
  | zero => omega
  | succ n ih =>
    unfold cnt
    by_cases hbn : b = n
    · subst hbn
      rw [upd_at, if_pos hv, if_neg (by omega), cnt_same (upd F b v) F b fun i hi => by rw [upd_ne F v (by omega)]]
    · rw [ih (by omega), upd_ne F v (by omega)]
      omega

/-- Going out: 'row' are the cells that are reached, in order; of the first 'at' all four sides, of the next the first d, have been looked at. -/
structure Inv (op tg : Nat → Prop) (F : Nat → Int) (row : List Nat) (at_ d : Nat) : Prop where
  lo : ∀ i, i < 384 → -1 ≤ F i
  zero : ∀ i, i < 384 → (F i = 0 ↔ tg i)
  back : ∀ i, i < 384 → 0 < F i → op i ∧ ∃ j d, j < 384 ∧ d < 4 ∧ nbIn j d ∧ nbOf j d = i ∧ F j = F i - 1
  mem : ∀ i, i < 384 → (0 ≤ F i ↔ i ∈ row)
  rng : ∀ i, i ∈ row → i < 384
  cnt : row.length = cnt F 384
  sorted : ∀ a b, a ≤ b → b < row.length → F (row[a]?.getD 0) ≤ F (row[b]?.getD 0)
  top : at_ < row.length → ∀ i, i < 384 → F i ≤ F (row[at_]?.getD 0) + 1
  seen : ∀ a e, e < 4 → a < row.length → 4 * a + e < 4 * at_ + d → nbIn (row[a]?.getD 0) e → op (nbOf (row[a]?.getD 0) e) → 0 ≤ F (nbOf (row[a]?.getD 0) e) ∧ F (nbOf (row[a]?.getD 0) e) ≤ F (row[a]?.getD 0) + 1

theorem Inv.len {op tg : Nat → Prop} {F : Nat → Int} {row : List Nat} {k d : Nat} (h : Inv op tg F row k d) : row.length ≤ 384 := by
  rw [h.cnt]; exact cnt_le _ _

theorem Inv.lt {op tg : Nat → Prop} {F : Nat → Int} {row : List Nat} {k d a : Nat} (h : Inv op tg F row k d) (ha : a < row.length) : row[a]?.getD 0 < 384 ∧ 0 ≤ F (row[a]?.getD 0) := by
  rw [List.getElem?_eq_getElem ha]
  have hm : row[a] ∈ row := List.getElem_mem ha
  have hr := h.rng _ hm
  exact ⟨hr, (h.mem _ hr).2 hm⟩

theorem Inv.high {op tg : Nat → Prop} {F : Nat → Int} {row : List Nat} {k d : Nat} (h : Inv op tg F row k d) : ∀ (n : Nat) i, i < 384 → F i = n → n ≤ 400 := by
  intro n i hi hn
  have key : ∀ m : Nat, m ≤ n → ∃ j, j < 384 ∧ F j = m := by
    intro m hm
    induction hnm : n - m generalizing m with
    | zero => exact ⟨i, hi, by omega⟩
    | succ q ih =>
      obtain ⟨j, hj, he⟩ := ih (m + 1) (by omega) (by omega)
      obtain ⟨_, j', _, hj', _, _, _, he'⟩ := h.back j hj (by omega)
      exact ⟨j', hj', by omega⟩
  by_cases hc : n ≤ 400
  · exact hc
  · exfalso
    have inj : ∀ m : Nat, m ≤ n + 1 → m ≤ (List.range 384).countP (fun i => decide (0 ≤ F i ∧ F i < m)) := by
      intro m
      induction m with
      | zero => intro _; exact Nat.zero_le _
      | succ m ih =>
        intro hm
        have h1 := ih (by omega)
        obtain ⟨j, hj, he⟩ := key m (by omega)
        have h2 : (List.range 384).countP (fun i => decide (0 ≤ F i ∧ F i < m)) < (List.range 384).countP (fun i => decide (0 ≤ F i ∧ F i < ((m + 1 : Nat) : Int))) := by
          have hs : ∀ (l : List Nat), j ∈ l → l.countP (fun i => decide (0 ≤ F i ∧ F i < m)) < l.countP (fun i => decide (0 ≤ F i ∧ F i < ((m + 1 : Nat) : Int))) := by
            intro l
            induction l with
            | nil => intro hm; cases hm
            | cons x l ih =>
              intro hm
              have hle : l.countP (fun i => decide (0 ≤ F i ∧ F i < m)) ≤ l.countP (fun i => decide (0 ≤ F i ∧ F i < ((m + 1 : Nat) : Int))) :=
                List.countP_mono_left fun y _ hy => by simp only [decide_eq_true_eq] at *; omega
              rw [List.countP_cons, List.countP_cons]
              rcases List.mem_cons.1 hm with rfl | hm
              · rw [if_neg (by simp; omega), if_pos (by simp; omega)]
                omega
              · have := ih hm
                by_cases hx : 0 ≤ F x ∧ F x < m
                · rw [if_pos (by simpa using hx), if_pos (by simp; omega)]
                  omega
                · rw [if_neg (by simpa using hx)]
                  omega
          exact hs _ (List.mem_range.2 hj)
        omega
    have := inj 401 (by omega)
    have hle : (List.range 384).countP (fun i => decide (0 ≤ F i ∧ F i < ((401 : Nat) : Int))) ≤ (List.range 384).length := List.countP_le_length
    rw [List.length_range] at hle
    omega

/-- The side that was looked at is no cell, or not open, or reached already. -/
theorem Inv.skip {op tg : Nat → Prop} {F : Nat → Int} {row : List Nat} {k d : Nat} (h : Inv op tg F row k d) (hk : k < row.length) (hd : d < 4)
    (hs : nbIn (row[k]?.getD 0) d → op (nbOf (row[k]?.getD 0) d) → 0 ≤ F (nbOf (row[k]?.getD 0) d)) : Inv op tg F row k (d + 1) := by
  refine ⟨h.lo, h.zero, h.back, h.mem, h.rng, h.cnt, h.sorted, h.top, fun a e he ha hl hn ho => ?_⟩
  by_cases hc : 4 * a + e < 4 * k + d
  · exact h.seen a e he ha hc hn ho
  · obtain rfl : a = k := by omega
    obtain rfl : e = d := by omega
    exact ⟨hs hn ho, h.top hk _ (nb_lt hn)⟩

/-- The side that was looked at is a cell, open, and not reached: it is marked, and stands last. -/
theorem Inv.mark {op tg : Nat → Prop} {F : Nat → Int} {row : List Nat} {k d : Nat} (h : Inv op tg F row k d) (htg : ∀ i, i < 384 → tg i → 0 ≤ F i) (hk : k < row.length) (hd : d < 4)
    (hn : nbIn (row[k]?.getD 0) d) (ho : op (nbOf (row[k]?.getD 0) d)) (hneg : F (nbOf (row[k]?.getD 0) d) < 0) :
    Inv op tg (upd F (nbOf (row[k]?.getD 0) d) (F (row[k]?.getD 0) + 1)) (row ++ [nbOf (row[k]?.getD 0) d]) k (d + 1) := by
  obtain ⟨hc, hc0⟩ := h.lt hk
  have hb := nb_lt hn
  have htop := h.top hk
  have hnc := h.cnt
  obtain ⟨c, hcd⟩ : ∃ c, c = row[k]?.getD 0 := ⟨_, rfl⟩
  obtain ⟨b, hbd⟩ : ∃ b, b = nbOf c d := ⟨_, rfl⟩
  rw [← hcd] at hn ho hneg hc hc0 hb htop ⊢
  rw [← hbd] at ho hneg hb ⊢
  have hbr : b ∉ row := fun hm => by have := (h.mem b hb).2 hm; omega
  have ne : ∀ i, i < 384 → 0 ≤ F i → i ≠ b := fun i _ h0 e => by rw [e] at h0; omega
  have old : ∀ i, i < 384 → 0 ≤ F i → upd F b (F c + 1) i = F i := fun i hi h0 => upd_ne F _ (ne i hi h0)
  have get : ∀ a, a < row.length → (row ++ [b])[a]?.getD 0 = row[a]?.getD 0 := fun a ha => by rw [List.getElem?_append_left ha]
  have getl : (row ++ [b])[row.length]?.getD 0 = b := by simp
  refine ⟨fun i hi => ?_, fun i hi => ?_, fun i hi hp => ?_, fun i hi => ?_, fun i hm => ?_, ?_, fun x y hxy hy => ?_, fun _ i hi => ?_, fun a e he ha hl hn' ho' => ?_⟩
  · by_cases e : i = b
    · rw [e, upd_at]; omega
    · rw [upd_ne F _ e]; exact h.lo i hi
  · by_cases e : i = b
    · rw [e, upd_at]
      constructor
      · intro hh; omega
      · intro ht
        have := htg b hb ht
        omega
    · rw [upd_ne F _ e]; exact h.zero i hi
  · by_cases e : i = b
    · subst e
      refine ⟨ho, c, d, hc, hd, hn, hbd.symm, ?_⟩
      rw [upd_at, old c hc hc0]; omega
    · rw [upd_ne F _ e] at hp ⊢
      obtain ⟨o, j, d', hj, hd', hn', hnb, he'⟩ := h.back i hi hp
      exact ⟨o, j, d', hj, hd', hn', hnb, by rw [old j hj (by omega)]; exact he'⟩
  · by_cases e : i = b
    · rw [e, upd_at]; simp; omega
    · rw [upd_ne F _ e, h.mem i hi]; simp [e]
  · rcases List.mem_append.1 hm with hm | hm
    · exact h.rng i hm
    · simp at hm; omega
  · rw [cnt_upd F b _ 384 hb hneg (by omega), List.length_append, hnc]; rfl
  · rw [List.length_append] at hy
    have hy' : y < row.length + 1 := hy
    by_cases e : y = row.length
    · rw [e, getl, upd_at]
      by_cases e2 : x = row.length
      · rw [e2, getl, upd_at]; exact Int.le_refl _
      · have hx : x < row.length := by omega
        obtain ⟨h1, h2⟩ := h.lt hx
        rw [get x hx, old _ h1 h2]
        exact htop _ h1
    · have hy2 : y < row.length := by omega
      obtain ⟨h1, h2⟩ := h.lt hy2
      obtain ⟨h3, h4⟩ := h.lt (show x < row.length by omega)
      rw [get y hy2, get x (by omega), old _ h1 h2, old _ h3 h4]
      exact h.sorted x y hxy hy2
  · rw [get k hk, ← hcd, old c hc hc0]
    by_cases e : i = b
    · rw [e, upd_at]; omega
    · rw [upd_ne F _ e]; exact htop i hi
  · by_cases ea : a = row.length
    · omega
    · have ha2 : a < row.length := by rw [List.length_append] at ha; have : a < row.length + 1 := ha; omega
      rw [get a ha2] at hn' ho' ⊢
      obtain ⟨h1, h2⟩ := h.lt ha2
      rw [old _ h1 h2]
      by_cases hc2 : 4 * a + e < 4 * k + d
      · obtain ⟨q1, q2⟩ := h.seen a e he ha2 hc2 hn' ho'
        rw [old _ (nb_lt hn') q1]
        exact ⟨q1, q2⟩
      · obtain rfl : a = k := by omega
        obtain rfl : e = d := by omega
        rw [← hcd, ← hbd, upd_at]
        omega

/-- On to the next cell. -/
theorem Inv.next {op tg : Nat → Prop} {F : Nat → Int} {row : List Nat} {k : Nat} (h : Inv op tg F row k 4) : Inv op tg F row (k + 1) 0 := by
  refine ⟨h.lo, h.zero, h.back, h.mem, h.rng, h.cnt, h.sorted, fun hk i hi => ?_, fun a e he ha hl => h.seen a e he ha (by omega)⟩
  have h1 := h.top (by omega) i hi
  have h2 := h.sorted k (k + 1) (by omega) hk
  omega

/-- All have been looked at: it is the field. -/
theorem Inv.done {op tg : Nat → Prop} {F : Nat → Int} {row : List Nat} {k : Nat} (h : Inv op tg F row k 0) (hk : row.length ≤ k) : IsField op tg F := by
  refine ⟨h.lo, h.zero, h.back, fun j hj h0 d hd hn ho => ?_⟩
  obtain ⟨a, ha, he⟩ := List.getElem_of_mem ((h.mem j hj).1 h0)
  have e : row[a]?.getD 0 = j := by rw [List.getElem?_eq_getElem ha]; exact he
  have := h.seen a d hd ha (by omega)
  rw [e] at this
  exact this hn ho

/-- At the beginning. -/
theorem Inv.start {op tg : Nat → Prop} {F : Nat → Int} {row : List Nat} (h01 : ∀ i, i < 384 → F i = 0 ∨ F i = -1) (hz : ∀ i, i < 384 → (F i = 0 ↔ tg i)) (hm : ∀ i, i < 384 → (0 ≤ F i ↔ i ∈ row)) (hr : ∀ i, i ∈ row → i < 384)
    (hc : row.length = Gr.cnt F 384) : Inv op tg F row 0 0 := by
  have z : ∀ a, a < row.length → F (row[a]?.getD 0) = 0 := fun a ha => by
    rw [List.getElem?_eq_getElem ha]
    have hmm : row[a] ∈ row := List.getElem_mem ha
    have hl := hr _ hmm
    have h0 := (hm _ hl).2 hmm
    rcases h01 _ hl with h | h
    · exact h
    · simp only [Option.getD_some]; omega
  refine ⟨fun i hi => ?_, hz, fun i hi hp => ?_, hm, hr, hc, fun a b hab hb => ?_, fun hk i hi => ?_, fun a e he ha hl => by omega⟩
  · rcases h01 i hi with h | h <;> omega
  · rcases h01 i hi with h | h <;> omega
  · rw [z a (by omega), z b hb]; exact Int.le_refl _
  · rw [z 0 hk]
    rcases h01 i hi with h | h <;> omega

end Gr

end Go.Proofs.Ytbploaihicakeaa

namespace Go.Proofs.Ytbploaihicakeaa
open Go.RowKit

/-- A cell can be walked on and is not blocked. -/
def Gr.openB (f : Nat → Int) (blen : Nat) (g : Nat → Bool) (i : Nat) : Bool := Gr.walkB (f i) && !(decide (i < blen) && g i)

theorem Gr.open_no {f : Nat → Int} {blen : Nat} {g : Nat → Bool} {i : Nat} (h : Gr.walkB (f i) = false) : Gr.openB f blen g i = false := by simp [Gr.openB, h]
theorem Gr.open_past {f : Nat → Int} {blen : Nat} {g : Nat → Bool} {i : Nat} (h : Gr.walkB (f i) = true) (hi : ¬ i < blen) : Gr.openB f blen g i = true := by simp [Gr.openB, h, hi]
theorem Gr.open_in {f : Nat → Int} {blen : Nat} {g : Nat → Bool} {i : Nat} (h : Gr.walkB (f i) = true) (hi : i < blen) : Gr.openB f blen g i = !(g i) := by simp [Gr.openB, h, hi]

theorem Gr.at_in {f : Nat → Int} {x y : Int} {k : Nat} (h : Gr.inB x y = true) (hk : y * 24 + x = (k : Int)) : Gr.at 384 f x y = f k := by
  have := (Gr.inB_iff x y).1 h
  unfold Gr.at
  rw [if_pos ⟨h, by omega⟩, hk, Int.toNat_natCast]

theorem Gr.at_out {len : Nat} {f : Nat → Int} {x y : Int} (h : Gr.inB x y = false) : Gr.at len f x y = 0 := by
  unfold Gr.at
  rw [if_neg]
  rintro ⟨h', _⟩
  rw [h] at h'
  cases h'

set_option maxRecDepth 8000 in
set_option maxHeartbeats 800000 in
theorem isFree_out (B : Nat) (a b : Option Addr) (blen c1 c2 : Nat) (f : Nat → Int) (x y : Int) (w : World) (h : Vec B w a 384 (Byts f)) (hf : ∀ i, 0 ≤ f i ∧ f i ≤ 255) (hin : Gr.inB x y = false) :
    Calls Try.prog 107 #[.slice a 384 c1, .slice b blen c2, .int .i64 x, .int .i64 y] w fun e w' => e = .returned (.bool false) ∧ w' = w := by
  have c : ∀ w' : World, w' = w → Calls Try.prog 86 #[.slice a 384 c1, .int .i64 x, .int .i64 y] w' fun e w1 => e = .returned (.int .i64 0) ∧ w1 = w' := by
    rintro w' rfl
    have := at_any B a 384 c1 f x y w' h hf
    rwa [Gr.at_out hin] at this
  have cw : ∀ w' : World, Calls Try.prog 85 #[.int .i64 0] w' fun e w1 => e = .returned (.bool false) ∧ w1 = w' := fun w' => walk_any 0 w'
  clear h hf
  go_enter Try.func107, Try.ntmps107
  go_wp2_with (first | (go_at_call 86; refine (c _ rfl).mono ?_; rintro e w' ⟨rfl, hw⟩; subst w') | (go_at_call 85; refine (cw _).mono ?_; rintro e w' ⟨rfl, hw⟩; subst w'))
  go_ret
  exact ⟨rfl, rfl⟩

set_option maxRecDepth 8000 in
set_option maxHeartbeats 800000 in
theorem isFree_in (B : Nat) (a b : Option Addr) (blen c1 c2 : Nat) (f : Nat → Int) (g : Nat → Bool) (x y : Int) (k : Nat) (w : World) (h : Vec B w a 384 (Byts f)) (hf : ∀ i, 0 ≤ f i ∧ f i ≤ 255) (hb : Vec B w b blen (Bols g)) (hin : Gr.inB x y = true) (hk : y * 24 + x = (k : Int)) :
    Calls Try.prog 107 #[.slice a 384 c1, .slice b blen c2, .int .i64 x, .int .i64 y] w fun e w' => e = .returned (.bool (Gr.openB f blen g k)) ∧ w' = w := by
  have hm : blen ≤ 9223372036854775807 := hb.1
  obtain ⟨b1, b2, b3, b4⟩ := (Gr.inB_iff x y).1 hin
  have c : ∀ w' : World, w' = w → Calls Try.prog 86 #[.slice a 384 c1, .int .i64 x, .int .i64 y] w' fun e w1 => e = .returned (.int .i64 (f k)) ∧ w1 = w' := by
    rintro w' rfl
    have := at_any B a 384 c1 f x y w' h hf
    rwa [Gr.at_in hin hk] at this
  clear h hf
  by_cases hwk : Gr.walkB (f k) = true
  · by_cases hl : k < blen
    · have hd := hide (Gr.open_in (g := g) hwk hl)
      obtain ⟨bb, off, rfl, _, hc⟩ := hb.at hl
      have hc' : w.cell? ⟨bb, off + k, none⟩ = some (.bool (g k)) := hc
      have hl' : (k : Int) < (blen : Int) := by omega
      clear hc hb
      go_enter Try.func107, Try.ntmps107
      go_wp2_with (first | (go_at_call 86; refine (c _ rfl).mono ?_; rintro e w' ⟨rfl, hw⟩; subst w') | (go_at_call 85; refine (walk_any _ _).mono ?_; rintro e w' ⟨rfl, hw⟩; subst w') | (go_at_call 100; refine (number_any _ _ _ (by omega) (by omega) (by omega) (by omega)).mono ?_; rintro e w' ⟨rfl, hw⟩; subst w'))
      go_ret
      exact ⟨ret_bool (by rw [unhide hd, decide_eq_false (show ¬ blen ≤ k by omega)]; rfl), rfl⟩
    · have hd := hide (Gr.open_past (g := g) hwk hl)
      have hl' : (blen : Int) ≤ (k : Int) := by omega
      clear hb
      go_enter Try.func107, Try.ntmps107
      go_wp2_with (first | (go_at_call 86; refine (c _ rfl).mono ?_; rintro e w' ⟨rfl, hw⟩; subst w') | (go_at_call 85; refine (walk_any _ _).mono ?_; rintro e w' ⟨rfl, hw⟩; subst w') | (go_at_call 100; refine (number_any _ _ _ (by omega) (by omega) (by omega) (by omega)).mono ?_; rintro e w' ⟨rfl, hw⟩; subst w'))
      go_ret
      exact ⟨ret_bool (unhide hd).symm, rfl⟩
  · have hwk' : Gr.walkB (f k) = false := by simpa using hwk
    have hd := hide (Gr.open_no (blen := blen) (g := g) hwk')
    clear hwk hb
    go_enter Try.func107, Try.ntmps107
    go_wp2_with (first | (go_at_call 86; refine (c _ rfl).mono ?_; rintro e w' ⟨rfl, hw⟩; subst w') | (go_at_call 85; refine (walk_any _ _).mono ?_; rintro e w' ⟨rfl, hw⟩; subst w'))
    go_ret
    exact ⟨ret_bool (unhide hd).symm, rfl⟩

theorem grown_trans {a b c : World} {r : Option Nat} (h : a.grownBy b r) (k : b.grownBy c r) : a.grownBy c r :=
  ⟨k.os.trans h.os, k.tape.trans h.tape, k.output.trans h.output, Nat.le_trans h.size k.size, fun i hi hr => (k.block i (Nat.lt_of_lt_of_le hi h.size) hr).trans (h.block i hi hr)⟩

theorem grown_own {a b c : World} {r s : Option Nat} (h : a.grownBy b r) (k : b.grownBy c s) (hs : ∀ n, s = some n → a.heap.size ≤ n) : a.grownBy c r :=
  ⟨k.os.trans h.os, k.tape.trans h.tape, k.output.trans h.output, Nat.le_trans h.size k.size, fun i hi hr => (k.block i (Nat.lt_of_lt_of_le hi h.size) (fun e => by have := hs i e.symm; omega)).trans (h.block i hi hr)⟩

theorem grown_set {a b : World} {g : Nat} (h : a.grownBy b (some g)) (i : Nat) (u : Value) : a.grownBy (b.setCell ⟨g, i, none⟩ u) (some g) :=
  grown_trans h ⟨rfl, rfl, rfl, by simp, fun k _ hk => heap_setCell_other b ⟨g, i, none⟩ k u (fun e => hk (by rw [e]))⟩

theorem grown_alloc {a b : World} {r : Option Nat} (h : a.grownBy b r) (o : Obj) : a.grownBy (b.alloc o) r := grown_trans h (World.grownBy_alloc b o r)

theorem grown_drew {a b : World} {r : Option Nat} (h : a.grownBy b r) (n : Nat) : a.grownBy (b.drewN n) r := by
  have k := below_drewN (Below.refl b.heap.size b) n
  exact grown_trans h ⟨k.os, k.tape, k.output, k.size, fun i hi _ => k.block i hi⟩

theorem grown_below {a b : World} {g : Nat} (h : a.grownBy b (some g)) (hg : g ≤ a.heap.size) : Below g a b :=
  ⟨h.os, h.tape, h.output, h.size, fun i hi => h.block i (by omega) (fun e => by cases e; omega)⟩

/-- A slice that lies in another block than G. -/
def Vex (G : Nat) (w : World) (a : Option Addr) (len : Nat) (F : Nat → Value) : Prop :=
  len ≤ maxLen ∧ (len = 0 ∨ ∃ b off, a = some ⟨b, off, none⟩ ∧ b < w.heap.size ∧ b ≠ G ∧ ∀ i, i < len → w.cell? ⟨b, off + i, none⟩ = some (F i))

theorem Vex.at {G : Nat} {w wr : World} {a : Option Addr} {len : Nat} {F : Nat → Value} (h : Vex G w a len F) (hg : w.grownBy wr (some G)) {k : Nat} (hk : k < len) :
    ∃ b off, a = some ⟨b, off, none⟩ ∧ wr.cell? ⟨b, off + k, none⟩ = some (F k) := by
  obtain ⟨_, h0 | ⟨b, off, ha, hlt, hne, hc⟩⟩ := h
  · omega
  · exact ⟨b, off, ha, (World.cell?_of_block (a := ⟨b, off + k, none⟩) (hg.block b hlt (fun e => hne (by cases e; rfl)))).trans (hc k hk)⟩

theorem one_at (w : World) (x : Value) (t : TypeId) (B : Nat) (hB : B = w.heap.size) : ∀ j u, [x][j]? = some u → (w.alloc (.cells #[x] t)).cell? ((⟨B, 0, none⟩ : Addr).add j) = some u := by
  subst hB
  exact cell_one_new w x t

def natInts (l : List Nat) : List Int := l.map Int.ofNat

theorem natInts_more (l : List Nat) (b : Nat) : (natInts l).map (Value.int .i64) ++ [.int .i64 (b : Int)] = (natInts (l ++ [b])).map (Value.int .i64) := by
  simp [natInts]

theorem natInts_len (l : List Nat) : (natInts l).length = l.length := by simp [natInts]

theorem natInts_at (l : List Nat) (i : Nat) : (natInts l)[i]?.getD 0 = ((l[i]?.getD 0 : Nat) : Int) := by
  unfold natInts
  rw [List.getElem?_map]
  cases l[i]? <;> rfl

theorem own_vex {w : World} {base G : Nat} {v : Value} {l : List Nat} (h : w.ownsRow base 3 1 v l.length ((natInts l).map (Value.int .i64))) (hG : G < base) (hm : l.length ≤ maxLen) :
    ∃ a cap, v = .slice a l.length cap ∧ Vex G w a l.length (Ints fun i => ((l[i]?.getD 0 : Nat) : Int)) := by
  rcases h.2 with ⟨rfl, h0⟩ | ⟨g, cap, cur, rfl, hb, hg, _, _, _, _⟩
  · exact ⟨none, 0, by rw [h0], hm, .inl h0⟩
  · refine ⟨_, cap, rfl, hm, .inr ⟨g, 0, rfl, lt_of_block hg, by omega, fun i hi => ?_⟩⟩
    rw [Nat.zero_add, h.cellAt i (by omega), List.getElem?_map]
    show _ = some (Value.int .i64 ((l[i]?.getD 0 : Nat) : Int))
    rw [← natInts_at, List.getElem?_eq_getElem (by rw [natInts_len]; exact hi)]
    rfl

theorem Arr.grown {w w' : World} {g : Nat} {T : TypeId} {n : Nat} {F : Nat → Value} {r : Option Nat} (h : Arr w g T n F) (hg : w.grownBy w' r) (hr : r ≠ some g) : Arr w' g T n F := by
  have hlt := h.lt
  obtain ⟨cur, h1, hs, hc⟩ := h
  exact ⟨cur, (hg.block g hlt (fun e => hr e.symm)).trans h1, hs, hc⟩

theorem Arr.alloc {w : World} {g : Nat} {T : TypeId} {n : Nat} {F : Nat → Value} (h : Arr w g T n F) (o : Obj) : Arr (w.alloc o) g T n F := h.grown (World.grownBy_alloc w o none) (by simp)

theorem Arr.upd {w : World} {g n i : Nat} {T : TypeId} {F : Nat → Int} (h : Arr w g T n (Ints F)) (v : Int) : Arr (w.setCell ⟨g, i, none⟩ (.int .i64 v)) g T n (Ints (Gr.upd F i v)) := by
  refine (h.store i _).congr fun j _ => ?_
  show (if j = i then Value.int .i64 v else .int .i64 (F j)) = .int .i64 (if j = i then v else F j)
  split <;> rfl

end Go.Proofs.Ytbploaihicakeaa

namespace Go.Proofs.Ytbploaihicakeaa
open Go.RowKit

def Dc.fold (x c : Int) : Int := bits BinOp.xor IntKind.u64 x (x / c)

def Dc.m (x : Int) : Int :=
  Dc.fold (IntKind.u64.wrap (Dc.fold (IntKind.u64.wrap (Dc.fold x 1073741824 * 13787848793156543929)) 134217728 * 10723151780598845931)) 2147483648

theorem Dc.m_bd (x : Int) : 0 ≤ Dc.m x ∧ Dc.m x < 18446744073709551616 := by
  have h := wf_bits BinOp.xor IntKind.u64 (IntKind.u64.wrap (Dc.fold (IntKind.u64.wrap (Dc.fold x 1073741824 * 13787848793156543929)) 134217728 * 10723151780598845931)) (IntKind.u64.wrap (Dc.fold (IntKind.u64.wrap (Dc.fold x 1073741824 * 13787848793156543929)) 134217728 * 10723151780598845931) / 2147483648)
  simp only [Lit.wf, Bool.and_eq_true, decide_eq_true_eq, show IntKind.u64.min = 0 from by decide, show IntKind.u64.max = 18446744073709551615 from by decide] at h
  obtain ⟨h1, h2⟩ := h
  exact ⟨h1, Int.lt_of_le_of_lt h2 (by decide)⟩

theorem stir_any (x : Int) (w : World) :
    Calls Try.prog 105 #[.int .u64 x] w fun e w' => e = .returned (.int .u64 (Dc.m x)) ∧ w' = w := by
  go_enter Try.func105, Try.ntmps105
  go_wp2
  go_ret
  exact ⟨rfl, rfl⟩

theorem m_any (x : Int) (w : World) :
    Calls Try.prog 57 #[.int .u64 x] w fun e w' => e = .returned (.int .u64 (Dc.m x)) ∧ w' = w := by
  go_enter Try.func57, Try.ntmps57
  go_wp2
  go_ret
  exact ⟨rfl, rfl⟩

def Dc.step (x v : Int) : Int := Dc.m (IntKind.u64.wrap (bits BinOp.xor IntKind.u64 x (IntKind.u64.wrap v) + 11400714819323198485))

def Dc.mix (seed : Int) (zs : List Int) : Int := zs.foldl Dc.step (Dc.m (IntKind.u64.wrap (IntKind.u64.wrap seed + 11400714819323198485)))

theorem Dc.mix_bd (seed : Int) (zs : List Int) : 0 ≤ Dc.mix seed zs ∧ Dc.mix seed zs < 18446744073709551616 := by
  unfold Dc.mix
  generalize hx : Dc.m (IntKind.u64.wrap (IntKind.u64.wrap seed + 11400714819323198485)) = x
  have h : 0 ≤ x ∧ x < 18446744073709551616 := by rw [← hx]; exact Dc.m_bd _
  clear hx
  induction zs generalizing x with
  | nil => exact h
  | cons z zs ih => exact ih _ (Dc.m_bd _)

theorem Dc.mix_nil (seed : Int) : Dc.m (IntKind.u64.wrap (IntKind.u64.wrap seed + 11400714819323198485)) = Dc.mix seed [] := rfl

theorem Dc.mix_more (seed : Int) (zs : List Int) (k : Nat) (h : k < zs.length) : Dc.m (IntKind.u64.wrap (bits BinOp.xor IntKind.u64 (Dc.mix seed (zs.take k)) (IntKind.u64.wrap (zs[k]?.getD 0)) + 11400714819323198485)) = Dc.mix seed (zs.take (k + 1)) := by
  show Dc.step (Dc.mix seed (zs.take k)) (zs[k]?.getD 0) = _
  have e : zs.take (k + 1) = zs.take k ++ [zs[k]?.getD 0] := by
    rw [List.take_add_one, List.getElem?_eq_getElem h]; rfl
  rw [e]
  simp only [Dc.mix, List.foldl_append, List.foldl_cons, List.foldl_nil]

/-- A slice of whole numbers as it lies in memory: 'zs' are its elements; where it has none its address may be whatever. -/
def Row (w : World) (a : Option Addr) (len : Nat) (zs : List Int) : Prop :=
  zs.length = len ∧ len ≤ maxLen ∧ (len = 0 ∨ ∃ b off, a = some ⟨b, off, none⟩ ∧ ∀ i, i < len → w.cell? ⟨b, off + i, none⟩ = some (.int .i64 (zs[i]?.getD 0)))

theorem mix_none (seed : Int) (a : Option Addr) (cap : Nat) (w : World) :
    Calls Try.prog 97 #[.int .i64 seed, .slice a 0 cap] w fun e w' => e = .returned (.int .u64 (Dc.mix seed [])) ∧ w' = w := by
  go_enter Try.func97, Try.ntmps97
  go_wp2_with fail
  refine (stir_any _ _).mono ?_
  rintro e w1 ⟨rfl, rfl⟩
  go_wp2_with fail
  refine wp_loop_rounds 1 ?_
  rw [rounds_succ]
  go_wp2
  go_ret
  exact ⟨rfl, rfl⟩

theorem mix_some (seed : Int) (b off : Nat) (len cap : Nat) (zs : List Int) (w : World) (hz : zs.length = len) (hm : len ≤ 9223372036854775807)
    (hc : ∀ i, i < len → w.cell? ⟨b, off + i, none⟩ = some (.int .i64 (zs[i]?.getD 0))) :
    Calls Try.prog 97 #[.int .i64 seed, .slice (some ⟨b, off, none⟩) len cap] w fun e w' => e = .returned (.int .u64 (Dc.mix seed zs)) ∧ w' = w := by
  go_enter Try.func97, Try.ntmps97
  go_wp2_with fail
  refine (stir_any _ _).mono ?_
  rintro e w1 ⟨rfl, rfl⟩
  go_wp2_with fail
  go_loop [5, 14] (fun x i => ∃ k : Nat, k ≤ len ∧ i = .int .i64 k ∧ x = .int .u64 (Dc.mix seed (zs.take k))) (fun _ i => len - (intOf i).toNat)
  case atStart => exact ⟨0, Nat.zero_le _, rfl, rfl⟩
  case round =>
    obtain ⟨k, hk, rfl, rfl⟩ := hrel
    have hcell : k < len → w1.cell? ⟨b, off + k, none⟩ = some (.int .i64 (zs[k]?.getD 0)) := fun h => hc k h
    go_wp2_with fail
    · refine (stir_any _ _).mono ?_
      rintro e w2 ⟨rfl, rfl⟩
      have hlt : k < len := by assumption
      have hstep := hide (Dc.mix_more seed zs k (by omega))
      go_wp2
      go_round
      case rel =>
        refine ⟨k + 1, by omega, by go_num, ?_⟩
        rw [← unhide hstep, List.getElem?_eq_getElem (by omega)]
        rfl
      case measure => simp [intOf]; omega
    · obtain rfl : k = len := by omega
      go_ret
      rw [List.take_of_length_le (by omega)]
      exact ⟨rfl, rfl⟩

theorem refMix_none (seed : Int) (a : Option Addr) (cap : Nat) (w : World) :
    Calls Try.prog 47 #[.int .i64 seed, .slice a 0 cap] w fun e w' => e = .returned (.int .u64 (Dc.mix seed [])) ∧ w' = w := by
  go_enter Try.func47, Try.ntmps47
  go_wp2_with fail
  refine (m_any _ _).mono ?_
  rintro e w1 ⟨rfl, rfl⟩
  go_wp2_with fail
  refine wp_loop_rounds 1 ?_
  rw [rounds_succ]
  go_wp2
  go_ret
  exact ⟨rfl, rfl⟩

theorem refMix_some (seed : Int) (b off : Nat) (len cap : Nat) (zs : List Int) (w : World) (hz : zs.length = len) (hm : len ≤ 9223372036854775807)
    (hc : ∀ i, i < len → w.cell? ⟨b, off + i, none⟩ = some (.int .i64 (zs[i]?.getD 0))) :
    Calls Try.prog 47 #[.int .i64 seed, .slice (some ⟨b, off, none⟩) len cap] w fun e w' => e = .returned (.int .u64 (Dc.mix seed zs)) ∧ w' = w := by
  go_enter Try.func47, Try.ntmps47
  go_wp2_with fail
  refine (m_any _ _).mono ?_
  rintro e w1 ⟨rfl, rfl⟩
  go_wp2_with fail
  go_loop [5, 6] (fun x i => ∃ k : Nat, k ≤ len ∧ i = .int .i64 k ∧ x = .int .u64 (Dc.mix seed (zs.take k))) (fun _ i => len - (intOf i).toNat)
  case atStart => exact ⟨0, Nat.zero_le _, rfl, rfl⟩
  case round =>
    obtain ⟨k, hk, rfl, rfl⟩ := hrel
    have hcell : k < len → w1.cell? ⟨b, off + k, none⟩ = some (.int .i64 (zs[k]?.getD 0)) := fun h => hc k h
    go_wp2_with fail
    · refine (m_any _ _).mono ?_
      rintro e w2 ⟨rfl, rfl⟩
      have hlt : k < len := by assumption
      have hstep := hide (Dc.mix_more seed zs k (by omega))
      go_wp2
      go_round
      case rel =>
        refine ⟨k + 1, by omega, by go_num, ?_⟩
        rw [← unhide hstep, List.getElem?_eq_getElem (by omega)]
        rfl
      case measure => simp [intOf]; omega
    · obtain rfl : k = len := by omega
      go_ret
      rw [List.take_of_length_le (by omega)]
      exact ⟨rfl, rfl⟩

theorem mix_row (seed : Int) (a : Option Addr) (len cap : Nat) (zs : List Int) (w : World) (h : Row w a len zs) :
    Calls Try.prog 97 #[.int .i64 seed, .slice a len cap] w fun e w' => e = .returned (.int .u64 (Dc.mix seed zs)) ∧ w' = w := by
  obtain ⟨hz, hm, rfl | ⟨b, off, rfl, hc⟩⟩ := h
  · obtain rfl := List.eq_nil_of_length_eq_zero hz
    exact mix_none _ _ _ _
  · exact mix_some _ _ _ _ _ _ _ hz hm hc

theorem refMix_row (seed : Int) (a : Option Addr) (len cap : Nat) (zs : List Int) (w : World) (h : Row w a len zs) :
    Calls Try.prog 47 #[.int .i64 seed, .slice a len cap] w fun e w' => e = .returned (.int .u64 (Dc.mix seed zs)) ∧ w' = w := by
  obtain ⟨hz, hm, rfl | ⟨b, off, rfl, hc⟩⟩ := h
  · obtain rfl := List.eq_nil_of_length_eq_zero hz
    exact refMix_none _ _ _ _
  · exact refMix_some _ _ _ _ _ _ _ hz hm hc

def Dc.die (n seed : Int) (zs : List Int) : Int := if n < 1 then 0 else Dc.mix seed zs % n

theorem Dc.die_bd (n seed : Int) (zs : List Int) (h : 1 ≤ n) : 0 ≤ Dc.die n seed zs ∧ Dc.die n seed zs < n := by
  unfold Dc.die
  rw [if_neg (by omega)]
  exact ⟨Int.emod_nonneg _ (by omega), Int.emod_lt_of_pos _ (by omega)⟩

theorem Dc.die_low (n seed : Int) (zs : List Int) (h : n < 1) : Dc.die n seed zs = 0 := if_pos h

set_option maxHeartbeats 400000 in
theorem die_row (n seed : Int) (a : Option Addr) (len cap : Nat) (zs : List Int) (w : World) (h : Row w a len zs) (hn : n ≤ 9223372036854775807) :
    Calls Try.prog 83 #[.int .i64 n, .int .i64 seed, .slice a len cap] w fun e w' => e = .returned (.int .i64 (Dc.die n seed zs)) ∧ w' = w := by
  by_cases hl : n < 1
  · have hd := hide (Dc.die_low n seed zs hl)
    clear h
    go_enter Try.func83, Try.ntmps83
    go_wp2
    go_ret
    rw [unhide hd]
    exact ⟨rfl, rfl⟩
  · have hd := hide (show Dc.die n seed zs = Dc.mix seed zs % n from if_neg hl)
    have hb := Dc.mix_bd seed zs
    have h1 := Int.emod_nonneg (Dc.mix seed zs) (show n ≠ 0 by omega)
    have h2 := Int.emod_lt_of_pos (Dc.mix seed zs) (show 0 < n by omega)
    have hr := hide h
    clear h
    obtain ⟨hb1, hb2⟩ := hb
    go_enter Try.func83, Try.ntmps83
    go_wp2_with fail
    refine (mix_row _ _ _ _ _ _ (unhide hr)).mono ?_
    rintro e w1 ⟨rfl, rfl⟩
    go_wp2
    go_ret
    rw [unhide hd]
    exact ⟨rfl, rfl⟩

set_option maxHeartbeats 400000 in
theorem refDie_row (n seed : Int) (a : Option Addr) (len cap : Nat) (zs : List Int) (w : World) (h : Row w a len zs) (hn : n ≤ 9223372036854775807) :
    Calls Try.prog 35 #[.int .i64 n, .int .i64 seed, .slice a len cap] w fun e w' => e = .returned (.int .i64 (Dc.die n seed zs)) ∧ w' = w := by
  by_cases hl : n < 1
  · have hd := hide (Dc.die_low n seed zs hl)
    clear h
    go_enter Try.func35, Try.ntmps35
    go_wp2
    go_ret
    rw [unhide hd]
    exact ⟨rfl, rfl⟩
  · have hd := hide (show Dc.die n seed zs = Dc.mix seed zs % n from if_neg hl)
    have hb := Dc.mix_bd seed zs
    have h1 := Int.emod_nonneg (Dc.mix seed zs) (show n ≠ 0 by omega)
    have h2 := Int.emod_lt_of_pos (Dc.mix seed zs) (show 0 < n by omega)
    have hr := hide h
    clear h
    obtain ⟨hb1, hb2⟩ := hb
    go_enter Try.func35, Try.ntmps35
    go_wp2_with fail
    refine (refMix_row _ _ _ _ _ _ (unhide hr)).mono ?_
    rintro e w1 ⟨rfl, rfl⟩
    go_wp2
    go_ret
    rw [unhide hd]
    exact ⟨rfl, rfl⟩

theorem die_low (n seed : Int) (a : Option Addr) (len cap : Nat) (zs : List Int) (w : World) (h : Row w a len zs) (hn : n < 1) :
    Calls Try.prog 83 #[.int .i64 n, .int .i64 seed, .slice a len cap] w fun e w' => e = .returned (.int .i64 0) ∧ w' = w := by
  have c := die_row n seed a len cap zs w h (by omega)
  rw [Dc.die_low n seed zs hn] at c
  exact c

theorem die_high (n seed : Int) (a : Option Addr) (len cap : Nat) (zs : List Int) (w : World) (h : Row w a len zs) (hn : 1 ≤ n) (hn2 : n ≤ 9223372036854775807) :
    Calls Try.prog 83 #[.int .i64 n, .int .i64 seed, .slice a len cap] w fun e w' => e = .returned (.int .i64 (Dc.mix seed zs % n)) ∧ w' = w := by
  have c := die_row n seed a len cap zs w h hn2
  rw [show Dc.die n seed zs = Dc.mix seed zs % n from if_neg (by omega)] at c
  exact c

theorem die_one (seed : Int) (a : Option Addr) (len cap : Nat) (zs : List Int) (w : World) (h : Row w a len zs) :
    Calls Try.prog 83 #[.int .i64 1, .int .i64 seed, .slice a len cap] w fun e w' => e = .returned (.int .i64 0) ∧ w' = w := by
  have c := die_high 1 seed a len cap zs w h (by omega) (by omega)
  rw [Int.emod_one] at c
  exact c

theorem Row.kept {w w' : World} {a : Option Addr} {len : Nat} {zs : List Int} (h : Row w a len zs) (hb : Below w.heap.size w w') : Row w' a len zs := by
  obtain ⟨hz, hm, h0 | ⟨b, off, ha, hc⟩⟩ := h
  · exact ⟨hz, hm, .inl h0⟩
  · exact ⟨hz, hm, .inr ⟨b, off, ha, fun i hi => cell_later hb (hc i hi)⟩⟩

theorem Row.taken {w : World} {a : Option Addr} {len : Nat} {zs : List Int} (h : Row w a len zs) (k : Nat) (hk : k ≤ len) : Row w a k (zs.take k) := by
  obtain ⟨hz, hm, h0 | ⟨b, off, ha, hc⟩⟩ := h
  · exact ⟨by simp; omega, Nat.le_trans hk hm, .inl (by omega)⟩
  · exact ⟨by simp; omega, Nat.le_trans hk hm, .inr ⟨b, off, ha, fun i hi => by rw [hc i (by omega), List.getElem?_take, if_pos hi]⟩⟩

theorem Row.one (w : World) (v : Int) (T : TypeId) : Row (w.alloc (.cells #[.int .i64 v] T)) (some ⟨w.heap.size, 0, none⟩) 1 [v] := by
  refine ⟨rfl, by decide, .inr ⟨_, _, rfl, fun i hi => ?_⟩⟩
  obtain rfl : i = 0 := by omega
  simp

end Go.Proofs.Ytbploaihicakeaa

namespace Go.Proofs.Ytbploaihicakeaa
open Go.RowKit

/-- The chapter's D. -/
def Gn.D (s f a b n : Int) : Int := Dc.die n s [f, a, b]

theorem Gn.D_bd (s f a b n : Int) (h : 1 ≤ n) : 0 ≤ Gn.D s f a b n ∧ Gn.D s f a b n < n := Dc.die_bd n s [f, a, b] h

/-- A call answers v; nothing that was there has turned. -/
def Says (w : World) (v : Value) (e : Ending) (w' : World) : Prop := e = .returned v ∧ w.grownBy w' none

theorem Row.three (w : World) (x y z : Int) (T : TypeId) : Row (w.alloc (.cells #[.int .i64 x, .int .i64 y, .int .i64 z] T)) (some ⟨w.heap.size, 0, none⟩) 3 [x, y, z] := by
  refine ⟨rfl, by decide, .inr ⟨_, _, rfl, fun i hi => ?_⟩⟩
  rcases (show i = 0 ∨ i = 1 ∨ i = 2 by omega) with rfl | rfl | rfl <;> simp

theorem grown_store {a b : World} (h : a.grownBy b none) (p : Addr) (hp : a.heap.size ≤ p.block) (u : Value) : a.grownBy (b.setCell p u) none :=
  ⟨h.os, h.tape, h.output, by simpa using h.size, fun k hk hr => (heap_setCell_other b p k u (by omega)).trans (h.block k hk hr)⟩

theorem refD_any (s f a b n : Int) (w : World) (hn : n ≤ 9223372036854775807) :
    Calls Try.prog 50 #[.int .i64 s, .int .i64 f, .int .i64 a, .int .i64 b, .int .i64 n] w (Says w (.int .i64 (Gn.D s f a b n))) := by
  have c : ∀ (w' : World) (B : Nat), B = w'.heap.size → Calls Try.prog 35 #[.int .i64 n, .int .i64 s, .slice (some ⟨B, 0, none⟩) 3 3] (w'.alloc (.cells #[.int .i64 f, .int .i64 a, .int .i64 b] 3)) fun e w1 => e = .returned (.int .i64 (Gn.D s f a b n)) ∧ w1 = w'.alloc (.cells #[.int .i64 f, .int .i64 a, .int .i64 b] 3) := by
    rintro w' B rfl
    exact refDie_row n s _ 3 3 [f, a, b] _ (Row.three w' f a b 3) hn
  go_enter Try.func50, Try.ntmps50
  go_wp2_with fail
  refine (c _ _ (by simp)).mono ?_
  rintro e w1 ⟨rfl, rfl⟩
  go_wp2
  go_ret
  exact ⟨rfl, World.grownBy_alloc _ _ _⟩

/-- One step from a nearer to b. -/
def Gn.to1 (a b : Int) : Int := if a < b then a + 1 else if b < a then a - 1 else a

def Gn.cmp (x y : Int) : Int := if x < y then -1 else if y < x then 1 else 0

theorem toward_any (a b : Int) (w : World) (h : a ≠ b) (h1 : -1000 ≤ a) (h2 : a ≤ 1000) : Calls Try.prog 52 #[.int .i64 a, .int .i64 b] w fun e w' => e = .returned (.int .i64 (Gn.to1 a b)) ∧ w' = w := by
  by_cases h3 : a < b
  · have hd := hide (show Gn.to1 a b = a + 1 from if_pos h3)
    go_enter Try.func52, Try.ntmps52
    go_wp2
    go_ret
    exact ⟨ret_int (unhide hd).symm, rfl⟩
  · have hd := hide (show Gn.to1 a b = a - 1 by unfold Gn.to1; rw [if_neg h3, if_pos (by omega)])
    go_enter Try.func52, Try.ntmps52
    go_wp2
    go_ret
    exact ⟨ret_int (unhide hd).symm, rfl⟩

/-- What a monster of a kind is, at a cell. -/
def Gn.hp (k : Int) : Int := if k = 2 then 4 else if k = 3 then 9 else 6
def Gn.atk (k : Int) : Int := if k = 2 then 2 else if k = 3 then 4 else 3
def Gn.df (k : Int) : Int := if k = 3 then 1 else 0
def Gn.ent (k x y : Int) : Array Value := #[.int .i64 k, .int .i64 0, .int .i64 0, .int .i64 x, .int .i64 y, .int .i64 (Gn.hp k), .int .i64 (Gn.hp k), .int .i64 (Gn.atk k), .int .i64 (Gn.df k), .int .i64 0, .int .i64 0]

theorem refStats_any (k : Int) (w : World) (h1 : 2 ≤ k) (h2 : k ≤ 4) : Calls Try.prog 25 #[.int .i64 k] w (Says w (.agg (Gn.ent k 0 0))) := by
  rcases (show k = 2 ∨ k = 3 ∨ k = 4 by omega) with rfl | rfl | rfl
  all_goals
    go_enter Try.func25, Try.ntmps25
    go_wp2
    go_returns
    exact ⟨rfl, World.grownBy_alloc _ _ _⟩

end Go.Proofs.Ytbploaihicakeaa
