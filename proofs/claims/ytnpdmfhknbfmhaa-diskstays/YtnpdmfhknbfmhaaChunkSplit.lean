/-
  The document's Split.
-/
import Derived.Test.YtnpdmfhknbfmhaaChunkPut
import Derived.Test.YtnpdmfhknbfmhaaChunkRef
namespace Go.Proofs.Ytnpdmfhknbfmhaa
open Go.RowKit

/-- Piece j of bytes, and the first k pieces. -/
def Ck.pc (l : List Int) (j : Nat) : List Int := (l.drop (64 * j)).take 64
def Ck.pcs (l : List Int) (k : Nat) : List (List Int) := (List.range k).map (Ck.pc l)

theorem Ck.pcs_more (l : List Int) (k : Nat) : Ck.pcs l (k + 1) = Ck.pcs l k ++ [Ck.pc l k] := by
  unfold Ck.pcs
  rw [List.range_succ, List.map_append]
  rfl

theorem Ck.pcs_len (l : List Int) (k : Nat) : (Ck.pcs l k).length = k := by
  unfold Ck.pcs
  simp

theorem Ck.pc_len (l : List Int) (k : Nat) : (Ck.pc l k).length = min 64 (l.length - 64 * k) := by
  unfold Ck.pc
  rw [List.length_take, List.length_drop]

/-- Pieces as they lie: rows of bytes, each in a block of its own. -/
structure Ck.Lies (x : World) (base : Nat) (v : Value) (Vs : List Value) (ps : List (List Int)) : Prop where
  own : x.ownsRow base 31 1 v ps.length Vs
  each : ∀ (k : Nat) (u : Value) (l : List Int), Vs[k]? = some u → ps[k]? = some l → x.ownsRow base 5 1 u l.length (Ck.bys l) ∧ u ≠ .slice none 0 0

theorem Ck.apart {x : World} {base base' : Nat} {T U : TypeId} {z z' : Nat} {v u : Value} {n m : Nat} {xs ys : List Value} (h : x.ownsRow base T z v n xs) (k : x.ownsRow base' U z' u m ys) (hT : T ≠ U) : ∀ b, v.ownBlock = some b → u.ownBlock ≠ some b := by
  intro b e1 e2
  rcases h.2 with ⟨rfl, _⟩ | ⟨g, cap, cur, rfl, _, hc, _⟩
  · cases e1
  · rcases k.2 with ⟨rfl, _⟩ | ⟨g', cap', cur', rfl, _, hc', _⟩
    · cases e2
    · simp [Value.ownBlock] at e1 e2
      subst e1
      subst e2
      rw [hc] at hc'
      simp only [Option.some.injEq, Obj.cells.injEq] at hc'
      exact hT hc'.2.1

/-- Other blocks may turn. -/
theorem Ck.Lies.turn {B : Nat → Prop} {x y : World} {base : Nat} {v : Value} {Vs : List Value} {ps : List (List Int)} (H : Ck.Lies x base v Vs ps) (ht : Turn B x y) (hB : ∀ k, base ≤ k → ¬ B k) : Ck.Lies y base v Vs ps :=
  ⟨owns_turned H.own ht (fun k e => hB k (H.own.lt k e).1), fun k u l h1 h2 => ⟨owns_turned (H.each k u l h1 h2).1 ht (fun j e => hB j ((H.each k u l h1 h2).1.lt j e).1), (H.each k u l h1 h2).2⟩⟩

theorem Ck.Lies.on {x y : World} {base : Nat} {v : Value} {Vs : List Value} {ps : List (List Int)} (H : Ck.Lies x base v Vs ps) (hg : x.grownBy y none) : Ck.Lies y base v Vs ps :=
  H.turn (B := fun _ => False) (Turn.new hg) (fun _ _ q => q)

/-- One more piece: u was made (y), laid into a row of one (z0), and appended (z). -/
theorem Ck.Lies.more {x y z0 z : World} {base : Nat} {v v' u : Value} {Vs : List Value} {ps : List (List Int)} {l : List Int} (H : Ck.Lies x base v Vs ps) (hxy : x.grownBy y none) (hu : y.ownsRow base 5 1 u l.length (Ck.bys l)) (hn : u ≠ .slice none 0 0) (hyz : y.grownBy z0 none) (hown : z.ownsRow base 31 1 v' (ps.length + 1) (Vs ++ [u])) (hg : z0.grownBy z v.ownBlock) (hl : Vs.length = ps.length) : Ck.Lies z base v' (Vs ++ [u]) (ps ++ [l]) := by
  have hz0 := H.on (grown_trans hxy hyz)
  have hu0 : z0.ownsRow base 5 1 u l.length (Ck.bys l) := owns_turned (B := fun _ => False) hu (Turn.new hyz) (fun _ _ q => q)
  have tz : Turn (fun k => v.ownBlock = some k) z0 z := Turn.grown hg (fun k e => e)
  refine ⟨by rw [List.length_append]; exact hown, fun k w m h1 h2 => ?_⟩
  by_cases hk : k < Vs.length
  · rw [List.getElem?_append_left hk] at h1
    rw [List.getElem?_append_left (by omega)] at h2
    obtain ⟨p1, p2⟩ := hz0.each k w m h1 h2
    exact ⟨owns_turned p1 tz (fun j e q => Ck.apart hz0.own p1 (by decide) j q e), p2⟩
  · rw [List.getElem?_append_right (by omega)] at h1
    rw [List.getElem?_append_right (by omega)] at h2
    have hk0 : k - Vs.length = 0 := by
      have := (List.getElem?_eq_some_iff.1 h1).1
      simp at this
      omega
    rw [hk0] at h1
    rw [show k - ps.length = 0 by omega] at h2
    simp at h1 h2
    subst h1
    subst h2
    exact ⟨owns_turned hu0 tz (fun j e q => Ck.apart hz0.own hu0 (by decide) j q e), hn⟩

/-- What Split answers: k pieces. -/
def Ck.Splits (w : World) (ps : List (List Int)) (e : Ending) (w' : World) : Prop :=
  ∃ v Vs, e = .returned (.tuple #[v, .int .i64 0]) ∧ Vs.length = ps.length ∧ Ck.Lies w' w.heap.size v Vs ps ∧ w.grownBy w' none

theorem info_bys : (Try.prog.info? 31).map (fun i => (i.zero, i.size, i.bytes)) = some (some (.slice none 0 0), 1, 24) := by kernel_rfl

/-- Split on its way: k pieces. -/
structure Ck.Sp (w x : World) (l : List Int) (v : Value) (k : Nat) : Prop where
  lies : ∃ Vs, Vs.length = (Ck.pcs l k).length ∧ Ck.Lies x w.heap.size v Vs (Ck.pcs l k)
  bel : w.grownBy x none

end Go.Proofs.Ytnpdmfhknbfmhaa
