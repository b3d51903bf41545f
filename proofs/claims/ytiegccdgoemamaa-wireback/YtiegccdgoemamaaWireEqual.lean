/-
  Whether two rows of numbers are the same: slices.Equal of []int.
-/
import Derived.Test.YtiegccdgoemamaaWireLst
import Derived.BigQuiet
namespace Go.Proofs.Ytiegccdgoemamaa
open Go.RowKit

/-- A row of numbers lies from a block's begin on. -/
def Wr.Nums (x : World) (G : Nat) (l : List Int) : Prop := G < x.heap.size ∧ ∀ i b, l[i]? = some b → x.cell? ⟨G, i, none⟩ = some (.int .i64 b)

theorem Wr.Nums.on {x y : World} {G : Nat} {l : List Int} (h : Wr.Nums x G l) (hg : x.grownBy y none) : Wr.Nums y G l :=
  ⟨Nat.lt_of_lt_of_le h.1 hg.size, fun i b hi => (grown_cell hg G i h.1 (by simp)).trans (h.2 i b hi)⟩

/-- Told, and nothing but new blocks. -/
def Wr.Said (w : World) (v : Value) (e : Ending) (w' : World) : Prop := e = .returned v ∧ w.grownBy w' none

set_option maxRecDepth 8000 in
set_option maxHeartbeats 3200000 in
theorem wEqual_any (G K c c' : Nat) (l k : List Int) (w : World) (h1 : Wr.Nums w G l) (h2 : Wr.Nums w K k) (hl : l.length ≤ 100000001) :
    Calls Try.prog 46 #[.slice (some ⟨G, 0, none⟩) l.length c, .slice (some ⟨K, 0, none⟩) k.length c'] w (Wr.Said w (.bool (decide (l = k)))) := by
  have h1' := hide h1
  have h2' := hide h2
  have HL0 := hide hl
  obtain ⟨A, hA⟩ : ∃ A, decide (l = k) = A := ⟨_, rfl⟩
  rw [hA]
  by_cases hlen : l.length = k.length
  · obtain ⟨n, hn⟩ : ∃ n, l.length = n := ⟨_, rfl⟩
    have hno : Hid (∀ (i : Nat) (a b : Int), l[i]? = some a → k[i]? = some b → a ≠ b → false = A) := fun i a b ha hb hab => by
      rw [← hA, eq_comm, decide_eq_false_iff_not]
      intro e
      rw [e, hb] at ha
      exact hab (Option.some.inj ha).symm
    have hyes : Hid ((∀ i : Nat, i < n → l[i]? = k[i]?) → true = A) := fun h => by
      rw [← hA, eq_comm, decide_eq_true_iff]
      refine List.ext_getElem? fun i => ?_
      rcases Nat.lt_or_ge i n with q | q
      · exact h i q
      · rw [List.getElem?_eq_none (by omega), List.getElem?_eq_none (by omega)]
    have hnk : k.length = n := by omega
    have HN := hide hn
    have HNK := hide hnk
    rw [hn, hnk]
    clear h1 h2 hA hlen hl hn hnk
    go_enter Try.func46, Try.ntmps46
    go_wp2_with fail
    go_loopw [5, 13] (fun v5 v13 wr => ∃ j : Nat, j ≤ n ∧ v13 = .int .i64 (j : Int) ∧ Hid (∀ i : Nat, i < j → l[i]? = k[i]?) ∧ Hid (w.grownBy wr none)) (fun _ v13 _ => n + 1 - (intOf v13).toNat)
    case atStart => exact ⟨0, by omega, rfl, fun j hj => absurd hj (by omega), World.grownBy.refl _ _⟩
    case round =>
      obtain ⟨j, hj, rfl, hall, hg⟩ := hrel
      by_cases hlt : j < n
      · have hlt' : (j : Int) < (n : Int) := by omega
        have HL := hide hlt
        obtain ⟨a, ha⟩ : ∃ a, l[j]? = some a := ⟨_, List.getElem?_eq_getElem (by have := unhide HN; omega)⟩
        obtain ⟨b, hb⟩ : ∃ b, k[j]? = some b := ⟨_, List.getElem?_eq_getElem (by have := unhide HNK; omega)⟩
        have u0 : wr.cell? ⟨G, j, none⟩ = some (.int .i64 a) := ((unhide h1').on (unhide hg)).2 j a ha
        have v0 : wr.cell? ⟨K, j, none⟩ = some (.int .i64 b) := ((unhide h2').on (unhide hg)).2 j b hb
        have hj7 : (j : Int) ≤ 100000001 := by have := unhide HL0; have := unhide HN; omega
        obtain ⟨p, hpe⟩ : ∃ p, (a == b) = p := ⟨_, rfl⟩
        have hp : (a != b) = !p := by rw [← hpe]; rfl
        have HA := hide ha
        have HB := hide hb
        have HP := hide hpe
        clear hpe hlt hj ha hb
        have hdr : Hid (∀ m, w.grownBy (wr.drewN m) none) := fun m => grown_drew (unhide hg) m
        cases p with
        | true =>
          go_wp2_with fail
          try go_quiet (fail)
          go_wp2
          go_roundw
          case rel => exact ⟨j + 1, by have := unhide HL; omega, by go_num, fun i hi => by
            by_cases e : i = j
            · rw [e, unhide HA, unhide HB, show a = b from by simpa using unhide HP]
            · exact unhide hall i (by omega), (by first | exact unhide hdr _ | exact unhide hg)⟩
          case measure => simp [intOf]; have := unhide HL; omega
        | false =>
          have hf := hide (unhide hno j a b (unhide HA) (unhide HB) (by have q := unhide HP; intro e; rw [e] at q; simp at q))
          go_wp2_with fail
          try go_quiet (fail)
          go_wp2
          go_ret
          exact ⟨by rw [unhide hf]; rfl, (by first | exact unhide hdr _ | exact unhide hg)⟩
      · obtain rfl : j = n := by omega
        have hge : ¬ (j : Int) < (j : Int) := by omega
        have hf := hide (unhide hyes (unhide hall))
        clear hlt hj
        go_wp2
        go_ret
        exact ⟨by rw [unhide hf]; rfl, unhide hg⟩
  · have hf : Hid (false = A) := by
      show false = A
      rw [← hA, eq_comm, decide_eq_false_iff_not]
      intro e
      rw [e] at hlen
      exact hlen rfl
    obtain ⟨n, hn⟩ : ∃ n, l.length = n := ⟨_, rfl⟩
    obtain ⟨m, hm⟩ : ∃ m, k.length = m := ⟨_, rfl⟩
    rw [hn, hm] at hlen
    rw [hn, hm]
    have q1 : ((n : Int) != (m : Int)) = true := by simp; omega
    clear h1 h2 hA hl hn hm hlen
    go_enter Try.func46, Try.ntmps46
    go_wp2
    go_ret
    exact ⟨by rw [unhide hf]; rfl, World.grownBy.refl _ _⟩

end Go.Proofs.Ytiegccdgoemamaa
