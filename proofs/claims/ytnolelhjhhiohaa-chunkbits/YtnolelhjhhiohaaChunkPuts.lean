/-
  A law's own taker: pieces of 64 bytes that are put one behind the other.
-/
import Derived.Test.YtnolelhjhhiohaaChunkAll
import Derived.Test.YtnolelhjhhiohaaChunkKnown
namespace Go.Proofs.Ytnolelhjhhiohaa
open Go.RowKit

/-- A taker of a law: pieces of 'total', each of 64 bytes. -/
structure Ck.Hand (w x : World) (p total : Nat) (has : Nat → Bool) : Prop where
  taker : ∃ tot L V, Ck.Mkr x w.heap.size p tot has L V ∧ (tot = 0 ∨ tot = total) ∧ ∀ j, j < 16 → has j = true → (L j).length = 64
  low : w.heap.size ≤ p
  bel : Below w.heap.size w x

theorem Ck.Hand.on {w x y : World} {p total : Nat} {has : Nat → Bool} (H : Ck.Hand w x p total has) (hg : x.grownBy y none) : Ck.Hand w y p total has := by
  obtain ⟨⟨tot, L, V, h1, h2⟩, h3, h4⟩ := H
  exact ⟨⟨tot, L, V, h1.on hg, h2⟩, h3, h4.trans (Turn.below (B := fun _ => False) (Turn.new hg) h4.size (fun _ q => q.elim))⟩

theorem Ck.zeros_bys (n : Nat) : (madeCells #[Value.int .u8 0] n).toList = Ck.bys (List.replicate n 0) := by
  rw [toList_madeCells_one]
  unfold Ck.bys
  rw [List.map_replicate]

theorem Ck.cat_even {L : Nat → List Int} : ∀ {k : Nat}, (∀ i, i < k → (L i).length = 64) → (Ck.cat L k).length = 64 * k
  | 0, _ => rfl
  | k + 1, h => by
    show (Ck.cat L k ++ L k).length = _
    rw [List.length_append, Ck.cat_even (fun i hi => h i (by omega)), h k (by omega)]
    omega

/-- One more is put, 64 new bytes. -/
theorem Ck.Hand.put {w x y : World} {p total g cap : Nat} {has : Nat → Bool} (H : Ck.Hand w x p total has) (hg : x.grownBy y none) (hown : y.ownsRow x.heap.size 5 1 (.slice (some ⟨g, 0, none⟩) 64 cap) 64 (Ck.bys (List.replicate 64 0))) (h1 : 1 ≤ total) (h16 : total ≤ 16) {k : Nat} (hk : k < total) :
    Calls Try.prog 23 #[.pointer (some ⟨p, 0, none⟩), .int .i64 (k : Int), .int .i64 (total : Int), .slice (some ⟨g, 0, none⟩) 64 cap] y fun e z => e = .returned (.int .i64 0) ∧
      (∃ L V, Ck.Mkr z w.heap.size p total (Ck.put has k) L V ∧ ∀ j, j < 16 → Ck.put has k j = true → (L j).length = 64) ∧ Below w.heap.size w z := by
  obtain ⟨⟨tot, L, V, hM, ht, h64⟩, hlow, hbel⟩ := H.on hg
  have hgx := (hown.lt g rfl).1
  obtain ⟨⟨_, _, _, hM0, _⟩, _, _⟩ := H
  have hpx := hM0.box.lt
  have hs : Ck.Src y (.slice (some ⟨g, 0, none⟩) 64 cap) (List.replicate 64 0) := by
    have := Ck.own_src (l := List.replicate 64 0) (by rw [List.length_replicate]; exact hown)
    exact this
  refine (ckPut_ok w.heap.size p tot has L V k total _ (List.replicate 64 0) y hM hs h1 h16 hk ht (by simp) (.inl (by simp)) (fun ad c e _ => ?_)).mono ?_
  · simp at e
    rw [← e.1]
    show g ≠ p
    omega
  · rintro e z ⟨rfl, ⟨V', hM'⟩, hT⟩
    refine ⟨rfl, ⟨_, V', hM', fun j hj q => ?_⟩, hbel.trans (hT.below hbel.size (fun i e => by rw [e]; exact hlow))⟩
    unfold Ck.lay
    split
    · simp
    · rename_i hne
      unfold Ck.put at q
      by_cases e : j = k
      · subst e
        refine h64 j hj ?_
        cases hh : has j with
        | true => rfl
        | false => exact absurd ⟨rfl, hh⟩ hne
      · rw [if_neg e] at q
        exact h64 j hj q

/-- Whole of it: what it tells. -/
theorem Ck.Hand.whole {w x : World} {p total : Nat} {has : Nat → Bool} {L : Nat → List Int} {V : Nat → Value} (hM : Ck.Mkr x w.heap.size p total has L V) (h64 : ∀ j, j < 16 → has j = true → (L j).length = 64) (hlow : w.heap.size ≤ p) (hbel : Below w.heap.size w x) (h1 : 1 ≤ total) :
    Calls Try.prog 27 #[.pointer (some ⟨p, 0, none⟩)] x fun e y => ∃ a m c, e = .returned (.tuple #[.slice a m c, .bool (Ck.all total has)]) ∧ (Ck.all total has = true → m = 64 * total) ∧ Ck.Hand w y p total has := by
  refine (ckWhole_any w.heap.size p total has L V x hM).mono ?_
  have hH : Ck.Hand w x p total has := ⟨⟨total, L, V, hM, .inr rfl, h64⟩, hlow, hbel⟩
  rintro e y (⟨v, rfl, _, hall, hown, hg⟩ | ⟨rfl, h, hg⟩)
  · have hm := hM.most
    have hA : Ck.all total has = true := Ck.all_iff.2 hall
    have hl := Ck.cat_even (L := L) (k := total) (fun i hi => h64 i (by omega) (hall i hi))
    rw [hl] at hown
    obtain ⟨g, cap, rfl, _⟩ := Ck.own_form hown (by omega)
    exact ⟨_, _, _, by rw [hA], fun _ => rfl, hH.on hg⟩
  · have hA : Ck.all total has = false := by
      rcases h with h | ⟨i, h1, h2⟩
      · omega
      · exact Ck.all_no h1 h2
    exact ⟨_, _, _, by rw [hA], fun q => by (rw [hA] at q; cases q), hH.on hg⟩

end Go.Proofs.Ytnolelhjhhiohaa
