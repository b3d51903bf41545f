/-
  Pieces of bytes, of none too; bytes as a text.
-/
import Derived.Test.YtnpdmfhknbfmhaaChunkParts
import Derived.Test.YtnpdmfhknbfmhaaChunkAll
import Derived.Laws.BytesArg
import Derived.Laws.AppendOwnNone
import Derived.Laws.BytesString
namespace Go.Proofs.Ytnpdmfhknbfmhaa
open Go.RowKit

/-- The pieces of bytes. -/
def Ck.ps (l : List Int) : List (List Int) := if l = [] then [[]] else Ck.pcs l ((l.length + 63) / 64)

theorem Ck.ps_len (l : List Int) (h : l.length ≤ 1024) : 1 ≤ (Ck.ps l).length ∧ (Ck.ps l).length ≤ 16 := by
  unfold Ck.ps
  split
  · simp
  · rename_i hne
    have : 0 < l.length := List.length_pos_iff.2 hne
    rw [Ck.pcs_len]
    omega

theorem Ck.ps_at {l : List Int} {i : Nat} (hi : i < (Ck.ps l).length) : (Ck.ps l)[i]? = some (Ck.pc l i) := by
  unfold Ck.ps at hi ⊢
  split
  · rename_i he
    rw [if_pos he] at hi
    simp at hi
    subst hi
    rw [he]
    rfl
  · rename_i he
    rw [if_neg he, Ck.pcs_len] at hi
    unfold Ck.pcs
    rw [List.getElem?_map, List.getElem?_range hi]
    rfl

theorem Ck.ps_cat {l : List Int} : Ck.cat (Ck.pc l) (Ck.ps l).length = l := by
  refine Ck.cat_all l ?_
  unfold Ck.ps
  split
  · rename_i he; rw [he]; simp
  · rw [Ck.pcs_len]; omega

/-- All pieces but the last have 64 bytes. -/
theorem Ck.ps_size {l : List Int} {i : Nat} (hi : i < (Ck.ps l).length) : (Ck.pc l i).length ≤ 64 ∧ ((Ck.pc l i).length = 64 ∨ i + 1 = (Ck.ps l).length) := by
  rw [Ck.pc_len]
  refine ⟨by omega, ?_⟩
  unfold Ck.ps at hi ⊢
  split
  · rename_i he
    rw [if_pos he] at hi
    simp at hi
    right
    simp [hi]
  · rename_i he
    rw [if_neg he, Ck.pcs_len] at hi
    rw [Ck.pcs_len]
    omega

/-- Bytes as a text. -/
theorem Ck.Src.text {w : World} {v : Value} {l : List Int} (hs : Ck.Src w v l) : (convert 31 9 v).run Try.prog w = .ok (.string (strOfNums l)) w := by
  rcases hs with ⟨rfl, rfl⟩ | ⟨ad, cap, rfl, h2⟩
  · rw [run_convert_bytes_nil w 31 5 Try.underlying31 Try.underlying5 0 0 9 Try.underlying9]
    rfl
  · by_cases h0 : l = []
    · subst h0
      rw [run_convert_bytes_string w 31 9 5 (some ad) _ cap Try.underlying31 Try.underlying5 Try.underlying9]
      simp [Conv.bytesToString, loadCells, loadCellsFrom]
      rfl
    · have hp : 0 < l.length := List.length_pos_iff.2 h0
      have hat : ∀ j, j < l.length → w.cell? (ad.add j) = some (.int .u8 (l.getD j 0)) := fun j hj => h2 j _ (by
        unfold Ck.bys
        rw [List.getElem?_map, List.getElem?_eq_getElem hj, List.getD, List.getElem?_eq_getElem hj]
        rfl)
      obtain ⟨b, off, spot⟩ := ad
      have hspot : spot = none := by simpa [Addr.add] using World.cell?_spot (hat 0 hp)
      subst hspot
      exact run_convert_bytes_arg w 31 5 Try.underlying31 Try.underlying5 b off l.length cap l rfl (fun j hj => by have := hat j hj; rwa [Go.WideShapes.add_plain] at this) 9 Try.underlying9

theorem Ck.Src.grown {x y : World} {v : Value} {l : List Int} (h : Ck.Src x v l) (hg : x.grownBy y none) : Ck.Src y v l :=
  h.on fun ad u q => (World.cell?_of_block (hg.block _ (Go.block_lt_of_cell q) (by simp))).trans q

theorem Ck.Src.below {x y : World} {v : Value} {l : List Int} (h : Ck.Src x v l) (hg : Below x.heap.size x y) : Ck.Src y v l := h.grown (below_grown hg)

/-- Piece i of those that lie there. -/
theorem Ck.Lies.at {x : World} {base : Nat} {v : Value} {Vs : List Value} {ps : List (List Int)} (H : Ck.Lies x base v Vs ps) (hl : Vs.length = ps.length) (hp : 0 < ps.length) : ∃ g cap, v = .slice (some ⟨g, 0, none⟩) ps.length cap ∧ base ≤ g ∧ g < x.heap.size ∧ ∀ i l, ps[i]? = some l → ∃ gi ci, x.cell? ⟨g, i, none⟩ = some (.slice (some ⟨gi, 0, none⟩) l.length ci) ∧ x.ownsRow base 5 1 (.slice (some ⟨gi, 0, none⟩) l.length ci) l.length (Ck.bys l) := by
  rcases H.own.2 with ⟨_, e⟩ | ⟨g, cap, cur, e, hb, hc, _⟩
  · omega
  · refine ⟨g, cap, e, hb, (Array.getElem?_eq_some_iff.1 hc).1, fun i l hi => ?_⟩
    have hi2 : i < Vs.length := by rw [hl]; exact (List.getElem?_eq_some_iff.1 hi).1
    have hV : Vs[i]? = some Vs[i] := List.getElem?_eq_getElem hi2
    obtain ⟨h1, h2⟩ := H.each i _ l hV hi
    have h3 := H.own.cells (g := g) (by rw [e]; rfl) i _ hV
    rw [Go.WideShapes.add_plain, Nat.zero_add] at h3
    rcases h1.2 with ⟨q, _⟩ | ⟨gi, ci, cur', q, _⟩
    · exact absurd q h2
    · rw [q] at h3 h1
      exact ⟨gi, ci, h3, h1⟩

/-- Bytes that came in, or none, are laid behind a row of the call's own. -/
theorem wpList_append_src {w : World} {ops : Array Oper} {rest : List Oper} {o : Oper} {a : Act} {Q : Exit → Act → World → Prop} (hgd : o.guard = none) (s x : Operand) (ho : o.op = .call { callee := .builtin .append, args := #[s, x], argTypes := #[31, 31] })
    (base : Nat) (v : Value) (n : Nat) (xs : List Value) (hs : a.eval s = v) (hown : w.ownsRow base 5 1 v n xs) (u : Value) (l : List Int) (hx : a.eval x = u) (hsrc : Ck.Src w u l) (hn : n + l.length ≤ 100000) (hbase : base ≤ w.heap.size)
    (h : ∀ v' w', w'.ownsRow base 5 1 v' (n + l.length) (xs ++ Ck.bys l) → w.grownBy w' v.ownBlock → (v ≠ .slice none 0 0 → v' ≠ .slice none 0 0) → wpList Try.prog ops Q rest (a.put o.dst v') w') : wpList Try.prog ops Q (o :: rest) a w := by
  obtain ⟨i0, hi, hz0, hz1, hz2⟩ := info_parts info_by
  rcases hsrc with ⟨rfl, rfl⟩ | ⟨ad, c, rfl, h2⟩
  · refine wpList_append_own_none hgd s x 31 ho base 5 i0 1 Try.underlying31 hi v n xs hs hown hx ?_
    exact h v w (by simpa [Ck.bys] using hown) (World.grownBy.refl _ _) (fun q => q)
  · refine wpList_append_own w hgd s x 31 ho base 5 i0 (.int .u8 0) 1 1 Try.underlying31 hi hz0 hz1 hz2 rfl (by decide) v n xs hs hown ad l.length c (Ck.bys l) hx (by unfold Ck.bys; simp) h2 (fun u hu => ?_) (by unfold maxLen; omega) (by omega) hbase ?_
    · obtain ⟨q, -, rfl⟩ := List.mem_map.1 hu
      rfl
    · intro v' w' h3 h4 h5
      exact h v' w' h3 h4 (fun q r => q (h5.1 r).1)

end Go.Proofs.Ytnpdmfhknbfmhaa
