/-
  Two lists that hold the same are the same.
-/
import Derived.Test.YtbooojkhcnfhbaaEntRefGo
namespace Go.Proofs.Ytbooojkhcnfhbaa
open Go.RowKit

set_option maxRecDepth 8000 in
set_option maxHeartbeats 4000000 in
theorem same_any (n c1 c2 : Nat) (a1 a2 : Option Addr) (E : Nat → Nat → Int) (w : World) (hn : n ≤ 32) (h : n = 0 ∨ ∃ b1 b2, a1 = some ⟨b1, 0, none⟩ ∧ a2 = some ⟨b2, 0, none⟩ ∧ Ents w b1 n E ∧ Ents w b2 n E) :
    Calls Try.prog 11 #[.slice a1 n c1, .slice a2 n c2] w (Says w (.bool true)) := by
  have h' := hide h
  clear h
  go_enter Try.func11, Try.ntmps11
  go_wp2_with fail
  go_loopw [5] (fun vi wr => ∃ k : Nat, k ≤ n ∧ vi = .int .i64 (k : Int) ∧ w.grownBy wr none) (fun vi _ => 200 - (intOf vi).toNat)
  case atStart => exact ⟨0, by omega, rfl, World.grownBy.refl _ _⟩
  case round =>
    obtain ⟨k, hk, rfl, hgr⟩ := hrel
    have hgr' := hide hgr
    clear hgr
    by_cases hlt : k < n
    · obtain ⟨b1, b2, rfl, rfl, hE1, hE2⟩ : ∃ b1 b2, a1 = some ⟨b1, 0, none⟩ ∧ a2 = some ⟨b2, 0, none⟩ ∧ Ents w b1 n E ∧ Ents w b2 n E := by
        rcases unhide h' with h0 | h
        · omega
        · exact h
      obtain ⟨u0, u1, u2, u3, u4, u5, u6, u7, u8, u9, u10⟩ := (hE1.on (unhide hgr')).row hlt
      obtain ⟨s0, s1, s2, s3, s4, s5, s6, s7, s8, s9, s10⟩ := (hE2.on (unhide hgr')).row hlt
      have hlt' : (k : Int) < (n : Int) := by omega
      have hdr : Hid (∀ m, w.grownBy (wr.drewN m) none) := fun m => grown_drew (unhide hgr') m
      have HL := hide hlt
      clear hE1 hE2 hlt
      go_wp2_with fail
      go_quiet (fail)
      go_wp2
      go_roundw
      case rel => exact ⟨k + 1, by have := unhide HL; omega, by go_num, unhide hdr _⟩
      case measure => simp [intOf]; omega
    · have hge : ¬ (k : Int) < (n : Int) := by omega
      go_wp2
      go_ret
      exact ⟨rfl, unhide hgr'⟩

end Go.Proofs.Ytbooojkhcnfhbaa
