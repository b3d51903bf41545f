/-
  The law package's own: within, known.
-/
import Derived.Test.YtiegccdgoemamaaTableGo
import Derived.Test.YtiegccdgoemamaaEntSmall
namespace Go.Proofs.Ytiegccdgoemamaa
open Go.RowKit Go.WideShapes

/-- No rows. -/
def Tb.zero : Nat → Nat → Int := fun _ _ => 0

theorem Tb.Tab.congr {w : World} {a : Option Addr} {n c : Nat} {E F : Nat → Nat → Int} (h : Tb.Tab w a n c E) (he : ∀ i j, i < n → j < 4 → E i j = F i j) : Tb.Tab w a n c F :=
  ⟨h.1, h.2.1, fun i hi => by
    obtain ⟨b, h1, h2, h3⟩ := h.2.2.1 i hi
    exact ⟨b, h1, h2, fun j hj => by rw [h3 j hj, he i j hi hj]⟩, h.2.2.2⟩

/-- Add, where the record may be added. -/
theorem tbAdd_ok (a : Option Addr) (n c : Nat) (E : Nat → Nat → Int) (k i s f l : Int) (w : World) (h : Tb.Tab w a n c E) (hn : n ≤ 1000) (hf : f ≤ 9223372036854775807) (h0 : Tb.err E n k s f l = 0) (N : Nat) (F : Nat → Nat → Int) (hN : Tb.next E n k s f l = (N, F)) :
    Calls Try.prog 21 #[.slice a n c, .agg #[.int .i64 k, .int .i64 i, .int .i64 s, .int .i64 f, .int .i64 l]] w fun e w' => ∃ a' c', e = .returned (.tuple #[.slice a' N c', .int .i64 0]) ∧ Tb.Tab w' a' N c' F ∧ w.grownBy w' none := by
  refine (tbAdd_any a n c E k i s f l w h hn hf).mono ?_
  rintro e w' ⟨hg, -, h2⟩
  obtain ⟨a', c', he, ht⟩ := h2 h0
  rw [hN] at he ht
  exact ⟨a', c', he, ht, hg⟩

/-- Add, where it may not. -/
theorem tbAdd_no (a : Option Addr) (n c : Nat) (E : Nat → Nat → Int) (k i s f l : Int) (w : World) (h : Tb.Tab w a n c E) (hn : n ≤ 1000) (hf : f ≤ 9223372036854775807) (er : Int) (h0 : Tb.err E n k s f l = er) (hne : er ≠ 0) :
    Calls Try.prog 21 #[.slice a n c, .agg #[.int .i64 k, .int .i64 i, .int .i64 s, .int .i64 f, .int .i64 l]] w (Says w (.tuple #[.slice none 0 0, .int .i64 er])) := by
  refine (tbAdd_any a n c E k i s f l w h hn hf).mono ?_
  rintro e w' ⟨hg, h1, -⟩
  rw [h0] at h1
  exact ⟨h1 hne, hg⟩

theorem Tb.first (s f : Int) (h0 : 0 ≤ s) (h3 : s ≤ 3) (hf : 1 ≤ f) : Tb.err Tb.zero 0 2 s f 0 = 0 := by
  unfold Tb.err
  rw [if_neg (by omega), if_neg (by omega), if_neg (by omega), if_neg (by omega)]
  rfl

set_option maxRecDepth 8000 in
set_option maxHeartbeats 1600000 in
theorem known16_any (w : World) : Calls Try.prog 20 #[] w (Says w (.bool true)) := by
  have c1 := hide (tbAdd_ok none 0 0 Tb.zero 2 0 1 5 0 w (Tb.noTab w _) (by omega) (by decide) (Tb.first 1 5 (by decide) (by decide) (by decide)) 1 (Tb.put Tb.zero 0 (Tb.span 1 5)) rfl)
  obtain ⟨E, hE⟩ : ∃ E, Tb.put Tb.zero 0 (Tb.span 1 5) = E := ⟨_, rfl⟩
  have h5 : Tb.stand E 1 1 5 = 1 := by rw [← hE]; decide
  have h6 : Tb.stand E 1 1 6 = 3 := by rw [← hE]; decide
  rw [hE] at c1
  have cf := hide fun a c (x : World) (h : Tb.Tab x a 1 c E) (f : Int) => tbHow_any a 1 c E 1 f x h.2.2.1 h.1 h.2.1
  have k5 := hide fun a c (x : World) (h : Tb.Tab x a 1 c E) => h5 ▸ unhide cf a c x h 5
  have k6 := hide fun a c (x : World) (h : Tb.Tab x a 1 c E) => h6 ▸ unhide cf a c x h 6
  clear hE cf h5 h6
  go_enter Try.func20, Try.ntmps20
  go_wp2_with fail
  refine (unhide c1).mono ?_
  rintro e x ⟨a, c, rfl, ht, hx⟩
  have HT := hide ht
  have HX := hide hx
  clear c1 ht hx
  go_wp2_with fail
  refine (unhide k5 a c x (unhide HT)).mono ?_
  rintro e y ⟨rfl, hy⟩
  have HT2 := hide ((unhide HT).on hy)
  have HY := hide (grown_trans (unhide HX) hy)
  clear HT HX hy k5
  go_wp2_with fail
  refine (unhide k6 a c y (unhide HT2)).mono ?_
  rintro e z ⟨rfl, hz⟩
  have HZ := hide (grown_trans (unhide HY) hz)
  clear HT2 HY hz k6
  go_wp2
  go_ret
  exact ⟨rfl, unhide HZ⟩

end Go.Proofs.Ytiegccdgoemamaa
