/-
  Lists of cells in a block of the call's own; what slices' DeleteFunc and Delete make of them.
-/
import Derived.Test.YthngbjmiblbohaaGenFar
import Derived.Deep.RegionLaw
import Derived.Lib.SliceRun
namespace Go.Proofs.Ythngbjmiblbohaa
open Go.RowKit

theorem Lst.form {w : World} {base : Nat} {v : Value} {l : List Nat} (h : Lst w base v l) :
    (v = .slice none 0 0 ∧ l = []) ∨ ∃ g cap F, v = .slice (some ⟨g, 0, none⟩) l.length cap ∧ base ≤ g ∧ Arr w g 3 cap F ∧ l.length ≤ cap ∧ cap ≤ maxLen ∧ ∀ i, i < l.length → F i = .int .i64 ((l[i]?.getD 0 : Nat) : Int) := by
  rcases h.2 with ⟨rfl, h0⟩ | ⟨g, cap, cur, rfl, hb, hg, hn, hm, hs, ht⟩
  · exact .inl ⟨rfl, List.eq_nil_of_length_eq_zero h0⟩
  · refine .inr ⟨g, cap, fun i => cur[i]?.getD undef, rfl, hb, ⟨cur, hg, by omega, fun i hi => ?_⟩, hn, hm, fun i hi => ?_⟩
    · show cur[i]? = some (cur[i]?.getD undef)
      rw [Array.getElem?_eq_getElem (by omega)]
      rfl
    · show cur[i]?.getD undef = _
      have e : (cur.toList.take (l.length * 1))[i]? = ((natInts l).map (Value.int .i64))[i]? := by rw [ht]
      rw [List.getElem?_take, if_pos (by omega), Array.getElem?_toList, List.getElem?_map] at e
      rw [e, ← natInts_at, List.getElem?_eq_getElem (by rw [natInts_len]; exact hi)]
      rfl

theorem Lst.back {w : World} {base g cap : Nat} {l : List Nat} {F : Nat → Value} (hb : base ≤ g) (hA : Arr w g 3 cap F) (hn : l.length ≤ cap) (hm : cap ≤ maxLen) (hF : ∀ i, i < l.length → F i = .int .i64 ((l[i]?.getD 0 : Nat) : Int)) :
    Lst w base (.slice (some ⟨g, 0, none⟩) l.length cap) l := by
  obtain ⟨cur, hg, hs, hc⟩ := hA
  refine ⟨by simp [natInts], .inr ⟨g, cap, cur, rfl, hb, hg, hn, hm, by omega, ?_⟩⟩
  apply List.ext_getElem?
  intro i
  rw [List.getElem?_take, List.getElem?_map, Array.getElem?_toList]
  by_cases hi : i < l.length
  · rw [if_pos (by omega), hc i (by omega), hF i hi, ← natInts_at, List.getElem?_eq_getElem (by rw [natInts_len]; exact hi)]
    rfl
  · rw [if_neg (by omega), List.getElem?_eq_none (by rw [natInts_len]; omega)]
    rfl

theorem Arr.stores {g n : Nat} {T : TypeId} : ∀ (vs : List Value) (o : Nat) (w : World) (F : Nat → Value), Arr w g T n F → Arr (w.setCells g o vs) g T n (fun j => if o ≤ j ∧ j < o + vs.length then vs[j - o]?.getD undef else F j)
  | [], o, w, F, h => h.congr fun j _ => by
      show F j = if o ≤ j ∧ j < o + 0 then _ else F j
      rw [if_neg (by omega)]
  | v :: vs, o, w, F, h => by
      have h1 := Arr.stores vs (o + 1) (w.setCell ⟨g, o, none⟩ v) _ (h.store o v)
      refine Arr.congr h1 fun j _ => ?_
      show (if o + 1 ≤ j ∧ j < o + 1 + vs.length then vs[j - (o + 1)]?.getD undef else if j = o then v else F j) = if o ≤ j ∧ j < o + (vs.length + 1) then (v :: vs)[j - o]?.getD undef else F j
      by_cases e : j = o
      · rw [if_neg (by omega), if_pos e, if_pos (by omega), e, Nat.sub_self]
        rfl
      · by_cases e2 : o + 1 ≤ j ∧ j < o + 1 + vs.length
        · rw [if_pos e2, if_pos (by omega), show j - o = (j - (o + 1)) + 1 by omega]
          rfl
        · rw [if_neg e2, if_neg e, if_neg (by omega)]

theorem grown_sets {a : World} {g : Nat} : ∀ (vs : List Value) (o : Nat) (b : World), a.grownBy b (some g) → a.grownBy (b.setCells g o vs) (some g)
  | [], _, _, h => h
  | v :: vs, o, b, h => grown_sets vs (o + 1) (b.setCell ⟨g, o, none⟩ v) (grown_set h o v)

/-- Is a cell four steps away, or more? -/
def Gn.afar (F : Nat → Int) (c : Nat) : Bool := !(decide (F c < 4))

end Go.Proofs.Ythngbjmiblbohaa
