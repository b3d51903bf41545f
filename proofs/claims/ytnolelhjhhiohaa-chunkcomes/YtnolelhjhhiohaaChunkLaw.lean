/-
  The law package's own: within, sameInts.
-/
import Derived.Test.YtnolelhjhhiohaaChunkRef
import Derived.Deep.QuietTactic
import Derived.BigQuiet
namespace Go.Proofs.Ytnolelhjhhiohaa
open Go.RowKit

theorem Ck.within_neg (a n : Int) (hn : 0 < n) (h : a.tmod n < 0) : a.tmod n + n = a % n := by
  have := Int.emod_nonneg a (b := n) (by omega)
  have := Int.emod_lt_of_pos a hn
  have e := Int.emod_eq_tmod (a := a) (b := n)
  by_cases hc : 0 ≤ a ∨ n ∣ a
  · rw [if_pos hc] at e; omega
  · rw [if_neg hc] at e; omega

theorem Ck.within_pos (a n : Int) (hn : 0 < n) (h : ¬ a.tmod n < 0) : a.tmod n = a % n := by
  have := Int.emod_lt_of_pos a hn
  have e := Int.emod_eq_tmod (a := a) (b := n)
  by_cases hc : 0 ≤ a ∨ n ∣ a
  · rw [if_pos hc] at e; omega
  · rw [if_neg hc] at e; omega

set_option maxHeartbeats 400000 in
theorem within12_any (a n : Int) (w : World) (hn : 0 < n) (hn2 : n ≤ 4611686018427387904) :
    Calls Try.prog 14 #[.int .i64 a, .int .i64 n] w fun e w' => e = .returned (.int .i64 (a % n)) ∧ w' = w := by
  have t1 := Int.tmod_lt_of_pos a (b := n) hn
  have t2 := Int.lt_tmod_of_pos a (b := n) hn
  have hn0 : (n == 0) = false := by simp; omega
  by_cases h : a.tmod n < 0
  · have ha : ¬ 0 ≤ a := by
      intro h0
      have := Int.tmod_nonneg n h0
      omega
    have hd := hide (Ck.within_neg a n hn h)
    go_enter Try.func14, Try.ntmps14
    go_wp2
    go_ret
    exact ⟨ret_int (unhide hd), rfl⟩
  · have hd := hide (Ck.within_pos a n hn h)
    by_cases ha : 0 ≤ a
    · have e : a.tmod n = a % n := Int.tmod_eq_emod_of_nonneg ha
      have h' : ¬ a % n < 0 := by rw [← e]; exact h
      clear h t1 t2 e
      go_enter Try.func14, Try.ntmps14
      go_wp2
      go_ret
      exact ⟨rfl, rfl⟩
    · go_enter Try.func14, Try.ntmps14
      go_wp2
      go_ret
      exact ⟨ret_int (unhide hd), rfl⟩

theorem Ck.nums_at {l : List Nat} {k : Nat} (hk : k < l.length) : (Ck.nums l)[k]? = some (.int .i64 ((l.getD k 0 : Nat) : Int)) := by
  unfold Ck.nums
  rw [List.getElem?_map, List.getElem?_eq_getElem hk, List.getD, List.getElem?_eq_getElem hk]
  rfl

/-- Two rows that are the same. -/
theorem sameInts12_any (l : List Nat) (b1 b2 : Nat) (u v : Value) (w : World) (hu : w.ownsRow b1 3 1 u l.length (Ck.nums l)) (hv : w.ownsRow b2 3 1 v l.length (Ck.nums l)) (hn : l.length ≤ 100) :
    Calls Try.prog 15 #[u, v] w (Says w (.bool true)) := by
  have hc : Hid (∀ b u, w.ownsRow b 3 1 u l.length (Ck.nums l) → ∀ x, w.grownBy x none → ∀ q cap, u = .slice (some ⟨q, 0, none⟩) l.length cap → ∀ k, k < l.length → x.cell? ⟨q, k, none⟩ = some (.int .i64 ((l.getD k 0 : Nat) : Int))) := fun b u hu x hx q cap e k hk => by
    have ho := hu.kept hx (by cases u.ownBlock <;> simp)
    subst e
    have h1 := ho.cells (g := q) rfl k _ (Ck.nums_at hk)
    rwa [Go.WideShapes.add_plain, Nat.zero_add] at h1
  have hu' := hide (unhide hc b1 u hu)
  have hv' := hide (unhide hc b2 v hv)
  have hu2 := hu.2
  have hv2 := hv.2
  obtain ⟨f, hf⟩ : ∃ f : Nat → Nat, f = fun k => l.getD k 0 := ⟨_, rfl⟩
  have hfu : Hid (∀ x, w.grownBy x none → ∀ q cap, u = .slice (some ⟨q, 0, none⟩) l.length cap → ∀ k, k < l.length → x.cell? ⟨q, k, none⟩ = some (.int .i64 ((f k : Nat) : Int))) := by rw [hf]; exact hu'
  have hfv : Hid (∀ x, w.grownBy x none → ∀ q cap, v = .slice (some ⟨q, 0, none⟩) l.length cap → ∀ k, k < l.length → x.cell? ⟨q, k, none⟩ = some (.int .i64 ((f k : Nat) : Int))) := by rw [hf]; exact hv'
  obtain ⟨n, hnn⟩ : ∃ n, l.length = n := ⟨_, rfl⟩
  rw [hnn] at hfu hfv hu2 hv2 hn
  clear hc hu' hv' hf hu hv hnn
  have hform : ∀ z, ((z = Value.slice none 0 0 ∧ n = 0) ∨ ∃ g cap cur, z = .slice (some ⟨g, 0, none⟩) n cap ∧ b1 ≤ g ∧ w.heap[g]? = some (.cells cur 3 (0, 0)) ∧ n ≤ cap ∧ cap ≤ maxLen ∧ cur.size = cap * 1 ∧ cur.toList.take (n * 1) = Ck.nums l) → ∃ a cap, z = .slice a n cap ∧ (0 < n → ∃ g, a = some ⟨g, 0, none⟩) := fun z hz => by
    rcases hz with ⟨rfl, h0⟩ | ⟨g, cap, cur, rfl, _⟩
    · exact ⟨none, 0, by rw [h0], fun h => by omega⟩
    · exact ⟨_, cap, rfl, fun _ => ⟨g, rfl⟩⟩
  obtain ⟨a1, c1, rfl, ha1⟩ := hform u hu2
  obtain ⟨a2, c2, rfl, ha2⟩ : ∃ a cap, v = .slice a n cap ∧ (0 < n → ∃ g, a = some ⟨g, 0, none⟩) := by
    rcases hv2 with ⟨rfl, h0⟩ | ⟨g, cap, cur, rfl, _⟩
    · exact ⟨none, 0, by rw [h0], fun h => by omega⟩
    · exact ⟨_, cap, rfl, fun _ => ⟨g, rfl⟩⟩
  clear hu2 hv2 hform
  have HN := hide hn
  have hn1 : (n : Int) ≤ 100 := by omega
  have HA1 := hide ha1
  have HA2 := hide ha2
  clear hn ha1 ha2
  go_enter Try.func15, Try.ntmps15
  go_wp2
  go_loopw [5] (fun vi wr => ∃ k : Nat, k ≤ n ∧ vi = .int .i64 (k : Int) ∧ Hid (w.grownBy wr none)) (fun vi _ => 200 - (intOf vi).toNat)
  case atStart => exact ⟨0, Nat.zero_le _, rfl, World.grownBy.refl _ _⟩
  case round =>
    obtain ⟨k, hk, rfl, hg⟩ := hrel
    by_cases hlt : k < n
    · have hlt' : (k : Int) < (n : Int) := by omega
      obtain ⟨q1, rfl⟩ := unhide HA1 (by omega)
      obtain ⟨q2, rfl⟩ := unhide HA2 (by omega)
      have d1 := unhide hfu wr (unhide hg) q1 c1 rfl k hlt
      have d2 := unhide hfv wr (unhide hg) q2 c2 rfl k hlt
      have hdr : Hid (∀ m, w.grownBy (wr.drewN m) none) := fun m => grown_drew (unhide hg) m
      have HL := hide hlt
      clear hlt hk
      go_wp2_with fail
      go_quiet (fail)
      go_wp2
      go_roundw
      case rel => exact ⟨k + 1, by have := unhide HL; omega, by go_num, unhide hdr _⟩
      case measure => simp [intOf]; have := unhide HL; have := unhide HN; omega
    · have hge : ¬ (k : Int) < (n : Int) := by omega
      clear hlt hk
      go_wp2
      go_ret
      exact ⟨rfl, unhide hg⟩

end Go.Proofs.Ytnolelhjhhiohaa
