/-
  Both takers side by side, the project's and the document's.
-/
import Derived.Test.YtnolelhjhhiohaaChunkText
namespace Go.Proofs.Ytnolelhjhhiohaa
open Go.RowKit

theorem Ck.Tkr.turn {x y : World} {base p tot : Nat} {has : Nat → Bool} {L : Nat → List Int} {V : Nat → Value} {B : Nat → Prop} (H : Ck.Tkr x base p tot has L V) (ht : Turn B x y) (hp : ¬ B p) (hb : ∀ i, i < 16 → has i = true → ∀ k, (V i).ownBlock = some k → ¬ B k) : Ck.Tkr y base p tot has L V :=
  { H with box := H.box.turn ht hp, piece := fun i hi q => ⟨owns_turned (H.piece i hi q).1 ht (hb i hi q), (H.piece i hi q).2⟩ }

structure Ck.Pair (w x : World) (p q tot : Nat) (has : Nat → Bool) (L : Nat → List Int) (V U : Nat → Value) : Prop where
  mine : Ck.Mkr x w.heap.size p tot has L V
  ref : Ck.Tkr x w.heap.size q tot has L U
  ne : p ≠ q
  bel : Below w.heap.size w x

theorem Ck.Pair.turn {w x y : World} {p q tot : Nat} {has : Nat → Bool} {L : Nat → List Int} {V U : Nat → Value} {B : Nat → Prop} (H : Ck.Pair w x p q tot has L V U) (ht : Turn B x y) (hp : ¬ B p) (hq : ¬ B q) (hV : ∀ i, i < 16 → has i = true → ∀ k, (V i).ownBlock = some k → ¬ B k) (hU : ∀ i, i < 16 → has i = true → ∀ k, (U i).ownBlock = some k → ¬ B k) (hB : ∀ k, B k → w.heap.size ≤ k) : Ck.Pair w y p q tot has L V U :=
  ⟨H.mine.turn ht hp hV, H.ref.turn ht hq hU, H.ne, H.bel.trans (ht.below H.bel.size hB)⟩

theorem Ck.Pair.on {w x y : World} {p q tot : Nat} {has : Nat → Bool} {L : Nat → List Int} {V U : Nat → Value} (H : Ck.Pair w x p q tot has L V U) (hg : x.grownBy y none) : Ck.Pair w y p q tot has L V U :=
  H.turn (B := fun _ => False) (Turn.new hg) (fun q => q) (fun q => q) (fun _ _ _ _ _ q => q) (fun _ _ _ _ _ q => q) (fun _ q => q.elim)

/-- What a Put leaves: both takers, pieces that were there or new ones. -/
structure Ck.Next (w x z : World) (p q : Nat) (V U : Nat → Value) : Prop where
  pair : ∃ tot has L V' U', Ck.Pair w z p q tot has L V' U' ∧ (∀ j k, (V' j).ownBlock = some k → (V j).ownBlock = some k ∨ x.heap.size ≤ k) ∧ (∀ j k, (U' j).ownBlock = some k → (U j).ownBlock = some k ∨ x.heap.size ≤ k)
  turn : Turn (fun k => k = p ∨ k = q) x z

theorem Ck.Next.same {w x : World} {p q tot : Nat} {has : Nat → Bool} {L : Nat → List Int} {V U : Nat → Value} (H : Ck.Pair w x p q tot has L V U) : Ck.Next w x x p q V U :=
  ⟨⟨tot, has, L, V, U, H, fun _ _ e => .inl e, fun _ _ e => .inl e⟩, Turn.refl _ _⟩

theorem Ck.Pair.put {w x : World} {p q tot : Nat} {has : Nat → Bool} {L : Nat → List Int} {V U : Nat → Value} (H : Ck.Pair w x p q tot has L V U) (i total : Int) (a1 a2 : Option Addr) (n c1 c2 : Nat) (l : List Int) (hn : l.length = n) (hs1 : Ck.Src x (.slice a1 n c1) l) (hs2 : Ck.Src x (.slice a2 n c2) l) (hnm : n ≤ maxLen)
    (h1 : ∀ ad, a1 = some ad → 0 < n → ad.block ≠ p) (h2 : ∀ ad, a2 = some ad → 0 < n → ad.block ≠ p ∧ ad.block ≠ q) :
    Calls Try.prog 23 #[.pointer (some ⟨p, 0, none⟩), .int .i64 i, .int .i64 total, .slice a1 n c1] x fun e y => ∃ r, e = .returned (.int .i64 r) ∧ Below w.heap.size w y ∧
      Calls Try.prog 24 #[.pointer (some ⟨q, 0, none⟩), .int .i64 i, .int .i64 total, .slice a2 n c2] y fun e' z => e' = .returned (.int .i64 r) ∧ Ck.Next w x z p q V U := by
  by_cases hA : total < 1 ∨ 16 < total ∨ i < 0 ∨ total ≤ i
  · refine (ckPut_arg p i total _ x hA).mono ?_
    rintro e y ⟨rfl, rfl⟩
    refine ⟨1, rfl, H.bel, (refPut_arg q i total _ y hA).mono ?_⟩
    rintro e z ⟨rfl, rfl⟩
    exact ⟨rfl, Ck.Next.same H⟩
  by_cases hB : ((tot : Int) ≠ 0 ∧ (tot : Int) ≠ total) ∨ 64 < n ∨ (n < 64 ∧ i ≠ total - 1)
  · refine (ckPut_bad _ p tot has L V i total a1 n c1 x H.mine hA hB hnm).mono ?_
    rintro e y ⟨rfl, rfl⟩
    refine ⟨9, rfl, H.bel, (refPut_bad _ q tot has L U i total a2 n c2 y H.ref hA hB hnm).mono ?_⟩
    rintro e z ⟨rfl, rfl⟩
    exact ⟨rfl, Ck.Next.same H⟩
  obtain ⟨i', rfl⟩ : ∃ i' : Nat, i = (i' : Int) := ⟨i.toNat, by omega⟩
  obtain ⟨t', rfl⟩ : ∃ t' : Nat, total = (t' : Int) := ⟨total.toNat, by omega⟩
  subst hn
  have ht : tot = 0 ∨ tot = t' := by
    by_cases e : tot = 0
    · exact .inl e
    · exact .inr (Classical.byContradiction fun q => hB (.inl ⟨by omega, by omega⟩))
  have hl64 : l.length ≤ 64 := by omega
  have hl2 : l.length = 64 ∨ i' + 1 = t' := by
    by_cases e : l.length = 64
    · exact .inl e
    · exact .inr (Classical.byContradiction fun q => hB (.inr (.inr ⟨by omega, by omega⟩)))
  refine (ckPut_ok _ p tot has L V i' t' _ l x H.mine hs1 (by omega) (by omega) (by omega) ht hl64 hl2 (fun ad cap e h0 => by
    simp at e
    exact h1 ad e.1 h0)).mono ?_
  rintro e y ⟨rfl, ⟨V', hM, hV'⟩, hT⟩
  have hUp : ∀ j, j < 16 → has j = true → ∀ k, (U j).ownBlock = some k → ¬ k = p := fun j hj hh => Ck.own_off H.mine.box (H.ref.piece j hj hh).1 (by decide)
  have hR : Ck.Tkr y w.heap.size q tot has L U := H.ref.turn hT (fun e => H.ne e.symm) hUp
  have hby : Below w.heap.size w y := H.bel.trans (hT.below H.bel.size (fun k e => by rw [e]; exact H.mine.low))
  refine ⟨0, rfl, hby, ?_⟩
  have hs2y : Ck.Src y (.slice a2 l.length c2) l := hs2.turn hT (fun ad cap e h0 => by
    simp at e
    exact (h2 ad e.1 h0).1)
  refine (refPut_ok _ q tot has L U i' t' _ l y hR hs2y (by omega) (by omega) (by omega) ht hl64 hl2 (fun ad cap e h0 => by
    simp at e
    exact (h2 ad e.1 h0).2)).mono ?_
  rintro e z ⟨rfl, ⟨U', hR', hU'⟩, hT2⟩
  refine ⟨rfl, ⟨_, _, _, V', U', ⟨hM.turn hT2 H.ne (fun j hj hh => Ck.own_off hR.box (hM.piece j hj hh).1 (by decide)), hR', H.ne, hby.trans (hT2.below hby.size (fun k e => by rw [e]; exact H.ref.low))⟩, hV', fun j k e => ?_⟩, ?_⟩
  · rcases hU' j k e with h | h
    · exact .inl h
    · exact .inr (Nat.le_trans hT.size h)
  · exact (hT.mono (fun k e => .inl e)).trans hT2 (fun k _ e => .inr e)

/-- Whole of both. -/
theorem Ck.Pair.whole {w x : World} {p q tot : Nat} {has : Nat → Bool} {L : Nat → List Int} {V U : Nat → Value} (H : Ck.Pair w x p q tot has L V U) :
    Calls Try.prog 27 #[.pointer (some ⟨p, 0, none⟩)] x fun e y => ∃ a n c b, e = .returned (.tuple #[.slice a n c, .bool b]) ∧
      Calls Try.prog 28 #[.pointer (some ⟨q, 0, none⟩)] y fun e' z => ∃ a' n' c', e' = .returned (.tuple #[.slice a' n' c', .bool b]) ∧ Ck.Pair w z p q tot has L V U ∧ ∃ l, Ck.Src z (.slice a n c) l ∧ Ck.Src z (.slice a' n' c') l := by
  have form : ∀ (x : World) (base : Nat) (v : Value) (l : List Int), x.ownsRow base 5 1 v l.length (Ck.bys l) → ∃ a n c, v = .slice a n c := fun x base v l h => by
    rcases h.2 with ⟨e1, _⟩ | ⟨g, c, cur, e, _⟩
    · exact ⟨none, 0, 0, e1⟩
    · exact ⟨_, _, c, e⟩
  refine (ckWhole_any _ p tot has L V x H.mine).mono ?_
  rintro e y (⟨v, rfl, h0, hall, hown, hg⟩ | ⟨rfl, h, hg⟩)
  · obtain ⟨a, n, c, rfl⟩ := form _ _ _ _ hown
    refine ⟨a, n, c, true, rfl, ?_⟩
    refine (refWhole_any _ q tot has L U y (H.on hg).ref).mono ?_
    rintro e z (⟨v2, rfl, _, hown2, hg2⟩ | ⟨rfl, ⟨j, hj1, hj2⟩, hg2⟩)
    · obtain ⟨a', n', c', rfl⟩ := form _ _ _ _ hown2
      refine ⟨a', n', c', by rw [decide_eq_true h0], (H.on hg).on hg2, Ck.cat L tot, (Ck.own_src hown).grown hg2, Ck.own_src hown2⟩
    · rw [hall j hj1] at hj2
      cases hj2
  · refine ⟨none, 0, 0, false, rfl, ?_⟩
    refine (refWhole_any _ q tot has L U y (H.on hg).ref).mono ?_
    rintro e z (⟨v2, rfl, hall, hown2, hg2⟩ | ⟨rfl, ⟨j, hj1, hj2⟩, hg2⟩)
    · rcases h with h | ⟨j, hj1, hj2⟩
      · subst h
        obtain ⟨a', n', c', rfl⟩ := form _ _ _ _ hown2
        exact ⟨a', n', c', rfl, (H.on hg).on hg2, [], .inl ⟨rfl, rfl⟩, Ck.own_src (l := []) hown2⟩
      · rw [hall j hj1] at hj2
        cases hj2
    · exact ⟨none, 0, 0, rfl, (H.on hg).on hg2, [], .inl ⟨rfl, rfl⟩, .inl ⟨rfl, rfl⟩⟩

end Go.Proofs.Ytnolelhjhhiohaa
