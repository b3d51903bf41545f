/-
  A row of one-cell elements that the call itself has made, at a block whose number is known, its elements given by a function.
-/
import Derived.Test.YtiegccdgoemamaaGridMem
namespace Go.Proofs.Ytiegccdgoemamaa
open Go.RowKit

def Arr (w : World) (g : Nat) (T : TypeId) (n : Nat) (F : Nat → Value) : Prop :=
  ∃ cur : Array Value, w.heap[g]? = some (.cells cur T (0, 0)) ∧ cur.size = n ∧ ∀ i, i < n → cur[i]? = some (F i)

theorem Arr.cell {w : World} {g : Nat} {T : TypeId} {n : Nat} {F : Nat → Value} (h : Arr w g T n F) {i : Nat} (hi : i < n) : w.cell? ⟨g, i, none⟩ = some (F i) := by
  obtain ⟨cur, hg, _, hc⟩ := h
  rw [cell_of_row w g i cur T (0, 0) hg]
  exact hc i hi

theorem Arr.free {w : World} {g : Nat} {T : TypeId} {n : Nat} {F : Nat → Value} (h : Arr w g T n F) (i : Nat) : w.frozen? ⟨g, i, none⟩ = false := by
  obtain ⟨cur, hg, _, _⟩ := h
  exact frozen_of_row w g i cur T hg

theorem Arr.lt {w : World} {g : Nat} {T : TypeId} {n : Nat} {F : Nat → Value} (h : Arr w g T n F) : g < w.heap.size := by
  obtain ⟨cur, hg, _, _⟩ := h
  exact lt_of_block hg

theorem Arr.congr {w : World} {g : Nat} {T : TypeId} {n : Nat} {F G : Nat → Value} (h : Arr w g T n F) (he : ∀ i, i < n → F i = G i) : Arr w g T n G := by
  obtain ⟨cur, hg, hs, hc⟩ := h
  exact ⟨cur, hg, hs, fun i hi => by rw [hc i hi, he i hi]⟩

theorem Arr.kept {w w' : World} {B g : Nat} {T : TypeId} {n : Nat} {F : Nat → Value} (h : Arr w g T n F) (hb : Below B w w') (hlt : g < B) : Arr w' g T n F := by
  obtain ⟨cur, hg, hs, hc⟩ := h
  exact ⟨cur, (hb.block g hlt).trans hg, hs, hc⟩

theorem Arr.store {w : World} {g : Nat} {T : TypeId} {n : Nat} {F : Nat → Value} (h : Arr w g T n F) (i : Nat) (u : Value) : Arr (w.setCell ⟨g, i, none⟩ u) g T n (fun j => if j = i then u else F j) := by
  obtain ⟨cur, hg, hs, hc⟩ := h
  refine ⟨cur.setIfInBounds i u, heap_setCell_same w g i cur T u hg, by simpa using hs, fun j hj => ?_⟩
  show _ = some (if j = i then u else F j)
  by_cases hji : j = i
  · subst hji
    rw [if_pos rfl]
    simp [hs, hj]
  · rw [if_neg hji, Array.getElem?_setIfInBounds_ne (by omega)]
    exact hc j hj

theorem Arr.vec {w : World} {g : Nat} {T : TypeId} {n : Nat} {F : Nat → Value} (h : Arr w g T n F) (B : Nat) (hB : g < B) (hm : n ≤ maxLen) : Vec B w (some ⟨g, 0, none⟩) n F :=
  ⟨hm, .inr ⟨g, 0, rfl, hB, fun i hi => by rw [Nat.zero_add]; exact h.cell hi⟩⟩

theorem Arr.made {w : World} {base g : Nat} {T : TypeId} {n : Nat} {xs : List Value} (h : w.ownsRow base T 1 (.slice (some ⟨g, 0, none⟩) n n) n xs) (u : Value) : Arr w g T n (fun i => xs[i]?.getD u) := by
  have hl := h.1
  rcases h.2 with ⟨h', _⟩ | ⟨g', cap', cur, h', _, hg, _, _, hcs, htake⟩
  · simp at h'
  · simp only [Value.slice.injEq, Option.some.injEq, Addr.mk.injEq, and_true, true_and] at h'
    obtain ⟨rfl, rfl⟩ := h'
    refine ⟨cur, hg, by simpa using hcs, fun i hi => ?_⟩
    show _ = some (xs[i]?.getD u)
    rw [← htake]
    rw [Nat.mul_one, List.getElem?_take, if_pos hi, Array.getElem?_toList, Array.getElem?_eq_getElem (by omega)]
    rfl

theorem Arr.zero {w : World} {base g : Nat} {T : TypeId} {n : Nat} {z : Value} (h : w.ownsRow base T 1 (.slice (some ⟨g, 0, none⟩) n n) n (madeCells #[z] n).toList) : Arr w g T n (fun _ => z) := by
  refine (Arr.made h z).congr fun i hi => ?_
  rw [toList_madeCells_one, List.getElem?_replicate, if_pos (by omega)]
  rfl

theorem fill_more {g : Nat → Int} {z : Int} {k : Nat} {v : Int} (hv : v = g k) (j : Nat) : (if j = k then Value.int .i64 v else .int .i64 (if j < k then g j else z)) = .int .i64 (if j < k + 1 then g j else z) := by
  by_cases h : j = k
  · rw [if_pos h, if_pos (by omega), hv, h]
  · rw [if_neg h]
    by_cases h2 : j < k
    · rw [if_pos h2, if_pos (by omega)]
    · rw [if_neg h2, if_neg (by omega)]

theorem own_vec {w : World} {base : Nat} {v : Value} {len : Nat} {xs : List Int} (h : w.ownsRow base 3 1 v len (xs.map (Value.int .i64))) (hm : len ≤ maxLen) :
    ∃ a cap, v = .slice a len cap ∧ xs.length = len ∧ Vec w.heap.size w a len (Ints fun i => xs[i]?.getD 0) := by
  have h1 : xs.length = len := by simpa using h.1
  rcases h.2 with ⟨rfl, rfl⟩ | ⟨g, cap, cur, rfl, _, hg, _, _, _, _⟩
  · exact ⟨none, 0, rfl, h1, hm, .inl rfl⟩
  · refine ⟨_, cap, rfl, h1, hm, .inr ⟨g, 0, rfl, lt_of_block hg, fun i hi => ?_⟩⟩
    rw [Nat.zero_add, h.cellAt i (by omega), List.getElem?_map]
    show _ = some (Value.int .i64 (xs[i]?.getD 0))
    rw [List.getElem?_eq_getElem (by omega)]
    rfl

/-- A call hands back a slice of n elements, and nothing that was there has turned. -/
def Gives (w : World) (n : Nat) (F : Nat → Value) (e : Ending) (w' : World) : Prop :=
  ∃ a cap, e = .returned (.slice a n cap) ∧ Vec w'.heap.size w' a n F ∧ n ≤ cap ∧ Below w.heap.size w w'

theorem info_int : (Try.prog.info? 3).map (fun i => (i.zero, i.size, i.bytes)) = some (some (.int .i64 0), 1, 8) := by kernel_rfl

end Go.Proofs.Ytiegccdgoemamaa
