/-
  The document's taker: Put.
-/
import Derived.Test.YtnpdmfhknbfmhaaChunkTake
import Derived.Laws.OwnMore
namespace Go.Proofs.Ytnpdmfhknbfmhaa
open Go.RowKit

theorem owns_base {x : World} {base base' : Nat} {T : TypeId} {z : Nat} {v : Value} {n : Nat} {xs : List Value} (h : x.ownsRow base T z v n xs) (hb : base' ≤ base) : x.ownsRow base' T z v n xs := by
  obtain ⟨h1, h2⟩ := h
  refine ⟨h1, ?_⟩
  rcases h2 with h2 | ⟨g, cap, cur, rfl, hg, hc⟩
  · exact .inl h2
  · exact .inr ⟨g, cap, cur, rfl, Nat.le_trans hb hg, hc⟩

/-- Bytes that are handed in: none, or a row of them. -/
def Ck.Src (x : World) (v : Value) (l : List Int) : Prop :=
  (v = .slice none 0 0 ∧ l = []) ∨ ∃ ad cap, v = .slice (some ad) l.length cap ∧ ∀ j u, (Ck.bys l)[j]? = some u → x.cell? (ad.add j) = some u

theorem Ck.Src.on {x y : World} {v : Value} {l : List Int} (h : Ck.Src x v l) (hc : ∀ a u, x.cell? a = some u → y.cell? a = some u) : Ck.Src y v l := by
  rcases h with h | ⟨ad, cap, h1, h2⟩
  · exact .inl h
  · exact .inr ⟨ad, cap, h1, fun j u q => hc _ _ (h2 j u q)⟩

/-- What Put answers. -/
def Ck.putR (tot : Nat) (i total : Int) (len : Nat) : Int :=
  if total < 1 ∨ 16 < total ∨ i < 0 ∨ total ≤ i then 1
  else if ((tot : Int) ≠ 0 ∧ (tot : Int) ≠ total) ∨ 64 < len ∨ (len < 64 ∧ i ≠ total - 1) then 9 else 0

def Ck.put (has : Nat → Bool) (k : Nat) : Nat → Bool := fun j => if j = k then true else has j
def Ck.lay (has : Nat → Bool) (L : Nat → List Int) (k : Nat) (l : List Int) : Nat → List Int := fun j => if j = k ∧ has k = false then l else L j

theorem Ck.put_same {has : Nat → Bool} {k : Nat} (h : has k = true) : Ck.put has k = has := funext fun j => by
  unfold Ck.put
  by_cases e : j = k
  · rw [if_pos e, e, h]
  · rw [if_neg e]

theorem Ck.lay_same {has : Nat → Bool} {L : Nat → List Int} {k : Nat} {l : List Int} (h : has k = true) : Ck.lay has L k l = L := funext fun j => by
  unfold Ck.lay
  rw [if_neg (fun q => by rw [h] at q; exact absurd q.2 (by simp))]

theorem Ck.append_none {P : Program} {w : World} {o : Oper} {a : Act} {K : Act → World → Prop} {Q : Exit → Act → World → Prop} (s x : Operand) (t : TypeId) (ho : o.op = .call { callee := .builtin .append, args := #[s, x], argTypes := #[t, t] })
    (base : Nat) (e : TypeId) (i : TypeInfo) (size : Nat) (ht : P.underlying t = some (.slice e)) (hi : P.info? e = some i) (v : Value) (n : Nat) (xs : List Value) (hs : a.eval s = v) (hown : w.ownsRow base e size v n xs) (hx : a.eval x = .slice none 0 0) (h : K (a.put o.dst v) w) : o.wp P a w K Q := by
  have hrun := run_append_owned_none (P := P) (w := w) base t o.type e i size ht hi v n xs hown
  unfold Oper.wp
  simp [execOp, ho, resolve, invoke, builtin, hs, hx, hrun, Result.andThen]
  exact h

theorem Ck.wanted {c a b : Prop} [Decidable c] (hc : c) (h : a) : if c then a else b := by
  rw [if_pos hc]
  exact h

end Go.Proofs.Ytnpdmfhknbfmhaa

