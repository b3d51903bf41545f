/-
  The kind of a cell by its number, and the first cell of a kind: what both packages answer.
-/
import Derived.Test.YtiegccdgoemamaaGridCalls
namespace Go.Proofs.Ytiegccdgoemamaa
open Go.RowKit

/-- The kind of the cell of a number; 0 where there is none. -/
def Gr.kind (len : Nat) (f : Nat → Int) (c : Int) : Int := if 0 ≤ c ∧ c < 384 ∧ c.toNat < len then f c.toNat else 0

theorem Gr.kind_at (len : Nat) (f : Nat → Int) (c : Int) (h : 0 ≤ c) : Gr.at len f (c % 24) (c / 24) = Gr.kind len f c := by
  have e : c / 24 * 24 + c % 24 = c := by omega
  have hi := Gr.inB_iff (c % 24) (c / 24)
  unfold Gr.at Gr.kind
  rw [e]
  by_cases hc : c < 384 ∧ c.toNat < len
  · rw [if_pos ⟨hi.2 (by omega), hc.2⟩, if_pos ⟨h, hc⟩]
  · rw [if_neg (fun hh => hc ⟨by have := hi.1 hh.1; omega, hh.2⟩), if_neg (by omega)]

theorem Gr.tdiv_low (c : Int) (h : c < 0) (hb : -9223372036854775808 ≤ c) : -9223372036854775808 ≤ c.tdiv 24 ∧ c.tdiv 24 ≤ 0 ∧ -24 ≤ c.tmod 24 ∧ c.tmod 24 ≤ 0 ∧ 24 * c.tdiv 24 + c.tmod 24 = c := by
  have h1 := Int.mul_tdiv_add_tmod c 24
  have h2 := Int.lt_tmod_of_pos c (b := 24) (by omega)
  have h3 : c.tmod 24 ≤ 0 := by
    have := Int.tmod_nonneg (a := -c) 24 (by omega)
    rw [Int.neg_tmod] at this
    omega
  omega

theorem Gr.kind_at_low (len : Nat) (f : Nat → Int) (c : Int) (h : c < 0) (hb : -9223372036854775808 ≤ c) : Gr.at len f (c.tmod 24) (c.tdiv 24) = Gr.kind len f c := by
  obtain ⟨_, h1, _, h2, h3⟩ := Gr.tdiv_low c h hb
  have hi := Gr.inB_iff (c.tmod 24) (c.tdiv 24)
  unfold Gr.at Gr.kind
  rw [if_neg (fun hh => by have := hi.1 hh.1; omega), if_neg (by omega)]

theorem slice_bytes (a : Option Addr) (len cap k : Nat) (w : World) (hk : k ≤ cap) :
    (Instr.slice 27 (.slice a len cap) none (some (.int .i64 (k : Int))) none).run Try.prog w = .ok (.slice a k cap) w := by
  have hs : (sizeOf (Try.prog.elem 27)).run Try.prog w = .ok 1 w := by kernel_rfl
  rw [run_slice_h w 27 a len cap (by kernel_rfl) .i64 (k : Int) (by omega) (by omega), hs]
  have e : a.map (fun x => x.add (0 * 1)) = a := by
    cases a with
    | none => rfl
    | some x => simp [Addr.add]
  simp only [Result.andThen, sliced, e, Int.toNat_natCast, Nat.sub_zero, ite_self]

/-- The number of the first cell of a kind. -/
def Gr.find (len : Nat) (f : Nat → Int) (kind : Int) : Int := Gr.findFrom f kind (min len 384) 0

theorem Gr.find_on (f : Nat → Int) (kind : Int) (n k : Nat) (hk : k < n) : Gr.findFrom f kind (n - k) k = if f k = kind then (k : Int) else Gr.findFrom f kind (n - (k + 1)) (k + 1) := by
  obtain ⟨m, hm⟩ : ∃ m, n - k = m + 1 := ⟨n - k - 1, by omega⟩
  rw [hm, show n - (k + 1) = m by omega]
  rfl

theorem Gr.find_off (f : Nat → Int) (kind : Int) (n : Nat) : Gr.findFrom f kind (n - n) n = -1 := by
  rw [Nat.sub_self]; rfl

end Go.Proofs.Ytiegccdgoemamaa
