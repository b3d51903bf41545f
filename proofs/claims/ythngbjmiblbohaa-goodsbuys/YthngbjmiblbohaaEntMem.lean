/-
  Lists of entities as they lie in memory; calls that make memory of their own and turn nothing that was there; a copy of a list whose elements are of many cells.
-/
import Derived.Test.YthngbjmiblbohaaGridArr
import Derived.Test.YthngbjmiblbohaaGenMake
import Derived.Laws.CopyOwn
import Derived.Handy
import Derived.Deep.LoopGhost
namespace Go.Proofs.Ythngbjmiblbohaa
open Go.RowKit

theorem own_sets {a : World} {g : Nat} (hg : a.heap.size ≤ g) : ∀ (vs : List Value) (o : Nat) (b : World), a.grownBy b none → a.grownBy (b.setCells g o vs) none
  | [], _, _, h => h
  | v :: vs, o, b, h => own_sets hg vs (o + 1) (b.setCell ⟨g, o, none⟩ v) (grown_store h ⟨g, o, none⟩ hg v)

theorem none_below {a b : World} (h : a.grownBy b none) : Below a.heap.size a b :=
  ⟨h.os, h.tape, h.output, h.size, fun i hi => h.block i hi (fun e => by cases e)⟩

/-- The one cell of a new block; and a cell of an elder block behind a new one. -/
theorem cell_boxed (w : World) (v : Value) (T : TypeId) (B : Nat) (hB : B = w.heap.size) : (w.alloc (.cells #[v] T)).cell? ⟨B, 0, none⟩ = some v := by
  subst hB
  exact (Arr.lit (heap_alloc_new w (.cells #[v] T))).cell (i := 0) (by simp)

theorem cell_past {w : World} {B i : Nat} {v : Value} (o : Obj) (hB : B < w.heap.size) (h : w.cell? ⟨B, i, none⟩ = some v) : (w.alloc o).cell? ⟨B, i, none⟩ = some v :=
  (grown_cell (World.grownBy_alloc w o none) B i hB (by simp)).trans h

/-- An entity's cells: Kind, Gen, Seat, X, Y, HP, Max, Atk, Def, Poison, Stun. -/
def En.cells (e : Nat → Int) : Array Value := #[.int .i64 (e 0), .int .i64 (e 1), .int .i64 (e 2), .int .i64 (e 3), .int .i64 (e 4), .int .i64 (e 5), .int .i64 (e 6), .int .i64 (e 7), .int .i64 (e 8), .int .i64 (e 9), .int .i64 (e 10)]

/-- The cells of a list, one behind the other. -/
def En.flat (E : Nat → Nat → Int) : Nat → Value := fun c => .int .i64 (E (c / 11) (c % 11))

theorem En.flat_at (E : Nat → Nat → Int) (i j : Nat) (hj : j < 11) : En.flat E (i * 11 + j) = .int .i64 (E i j) := by
  unfold En.flat
  rw [show (i * 11 + j) / 11 = i by omega, show (i * 11 + j) % 11 = j by omega]

/-- A list of n entities at the head of block b: field j of row i is 'E i j'. -/
def Ents (w : World) (b n : Nat) (E : Nat → Nat → Int) : Prop :=
  n ≤ 32 ∧ b < w.heap.size ∧ ∀ i j, i < n → j < 11 → w.cell? ⟨b, i * 11 + j, none⟩ = some (.int .i64 (E i j))

theorem Ents.on {w w' : World} {b n : Nat} {E : Nat → Nat → Int} (h : Ents w b n E) (hg : w.grownBy w' none) : Ents w' b n E :=
  ⟨h.1, Nat.lt_of_lt_of_le h.2.1 hg.size, fun i j hi hj => (grown_cell hg b _ h.2.1 (by simp)).trans (h.2.2 i j hi hj)⟩

theorem Ents.congr {w : World} {b n : Nat} {E E' : Nat → Nat → Int} (h : Ents w b n E) (he : ∀ i j, i < n → j < 11 → E i j = E' i j) : Ents w b n E' :=
  ⟨h.1, h.2.1, fun i j hi hj => by rw [h.2.2 i j hi hj, he i j hi hj]⟩

theorem Arr.ents {w : World} {g n : Nat} {T : TypeId} {E : Nat → Nat → Int} (h : Arr w g T (n * 11) (En.flat E)) (hn : n ≤ 32) : Ents w g n E :=
  ⟨hn, h.lt, fun i j hi hj => by rw [h.cell (i := i * 11 + j) (by omega), En.flat_at E i j hj]⟩

/-- A list of n entities at the head of a block that the call itself has made; there may be spare room behind them. -/
def Own (w : World) (g n : Nat) (E : Nat → Nat → Int) : Prop :=
  n ≤ 32 ∧ ∃ m F, Arr w g 50 m F ∧ n * 11 ≤ m ∧ ∀ c, c < n * 11 → F c = En.flat E c

theorem Own.ents {w : World} {g n : Nat} {E : Nat → Nat → Int} (h : Own w g n E) : Ents w g n E := by
  obtain ⟨hn, m, F, hA, hm, hF⟩ := h
  exact ⟨hn, hA.lt, fun i j hi hj => by rw [hA.cell (i := i * 11 + j) (by omega), hF _ (by omega), En.flat_at E i j hj]⟩

theorem Own.on {w w' : World} {g n : Nat} {E : Nat → Nat → Int} (h : Own w g n E) (hg : w.grownBy w' none) : Own w' g n E := by
  obtain ⟨hn, m, F, hA, hm, hF⟩ := h
  exact ⟨hn, m, F, hA.grown hg (by simp), hm, hF⟩

theorem Own.free {w : World} {g n : Nat} {E : Nat → Nat → Int} (h : Own w g n E) (i : Nat) : w.frozen? ⟨g, i, none⟩ = false := by
  obtain ⟨hn, m, F, hA, hm, hF⟩ := h
  exact hA.free i

theorem Own.lt {w : World} {g n : Nat} {E : Nat → Nat → Int} (h : Own w g n E) : g < w.heap.size := h.ents.2.1

theorem Own.congr {w : World} {g n : Nat} {E E' : Nat → Nat → Int} (h : Own w g n E) (he : ∀ i j, i < n → j < 11 → E i j = E' i j) : Own w g n E' := by
  obtain ⟨hn, m, F, hA, hm, hF⟩ := h
  refine ⟨hn, m, F, hA, hm, fun c hc => ?_⟩
  rw [hF c hc]
  unfold En.flat
  rw [he _ _ (by omega) (by omega)]

/-- A list with one row other than it was. -/
def En.put (E : Nat → Nat → Int) (k : Nat) (e : Nat → Int) : Nat → Nat → Int := fun i => if i = k then e else E i

theorem En.put_same (E : Nat → Nat → Int) (k : Nat) (e : Nat → Int) : En.put E k e k = e := if_pos rfl
theorem En.put_other {E : Nat → Nat → Int} {k i : Nat} {e : Nat → Int} (h : i ≠ k) : En.put E k e i = E i := if_neg h

theorem En.cells_at (e : Nat → Int) (j : Nat) (hj : j < 11) : (En.cells e).toList[j]?.getD undef = .int .i64 (e j) := by
  rcases (show j = 0 ∨ j = 1 ∨ j = 2 ∨ j = 3 ∨ j = 4 ∨ j = 5 ∨ j = 6 ∨ j = 7 ∨ j = 8 ∨ j = 9 ∨ j = 10 by omega) with rfl | rfl | rfl | rfl | rfl | rfl | rfl | rfl | rfl | rfl | rfl <;> rfl

theorem Own.store {w : World} {g n : Nat} {E : Nat → Nat → Int} (h : Own w g n E) (k : Nat) (e : Nat → Int) : Own (w.setCells g (k * 11) (En.cells e).toList) g n (En.put E k e) := by
  obtain ⟨hn, m, F, hA, hm, hF⟩ := h
  refine ⟨hn, m, _, hA.stores (En.cells e).toList (k * 11), hm, fun c hc => ?_⟩
  show (if k * 11 ≤ c ∧ c < k * 11 + 11 then (En.cells e).toList[c - k * 11]?.getD undef else F c) = En.flat (En.put E k e) c
  unfold En.flat
  by_cases hk : k * 11 ≤ c ∧ c < k * 11 + 11
  · rw [if_pos hk, En.cells_at e _ (by omega), show c / 11 = k by omega, En.put_same, show c - k * 11 = c % 11 by omega]
  · rw [if_neg hk, hF c hc, En.put_other (by omega)]
    rfl

theorem Own.of_owns {w : World} {base g n cap : Nat} {xs : List Value} {E : Nat → Nat → Int} (h : w.ownsRow base 50 11 (.slice (some ⟨g, 0, none⟩) n cap) n xs) (hn : n ≤ 32) (hx : ∀ c, c < n * 11 → xs[c]? = some (En.flat E c)) : Own w g n E := by
  rcases h.2 with ⟨h', _⟩ | ⟨g', cap', cur, h', _, hg, hnc, _, hcs, htake⟩
  · simp at h'
  · simp only [Value.slice.injEq, Option.some.injEq, Addr.mk.injEq, and_true, true_and] at h'
    obtain ⟨rfl, rfl⟩ := h'
    refine ⟨hn, cur.size, fun j => cur[j]?.getD undef, Arr.lit hg, by rw [hcs]; omega, fun c hc => ?_⟩
    show cur[c]?.getD undef = _
    have e := hx c hc
    rw [← htake, List.getElem?_take, if_pos hc, Array.getElem?_toList] at e
    rw [e]
    rfl

/-- A call hands back a list of its own; nothing that was there has turned. -/
def Lists (w : World) (n : Nat) (E : Nat → Nat → Int) (e : Ending) (w' : World) : Prop :=
  ∃ g cap, e = .returned (.slice (some ⟨g, 0, none⟩) n cap) ∧ w.heap.size ≤ g ∧ n ≤ cap ∧ cap ≤ maxLen ∧ Own w' g n E ∧ w.grownBy w' none

/-- 'copy' of elements of z cells each, into a row that is known whole. -/
theorem run_copy_many {P : Program} (w : World) (dT sT ty elem : TypeId) (z g o dLen dCap : Nat) (a : Addr) (sLen sCap : Nat) (cur : Array Value) (t : TypeId) (cs : List Value)
    (hu : P.underlying dT = some (.slice elem)) (hs : (P.info? elem).map (·.size) = some z)
    (hg : w.heap[g]? = some (.cells cur t (0, 0))) (hn : cs.length = Nat.min sLen dLen * z)
    (hsrc : ∀ j v, cs[j]? = some v → w.cell? (a.add j) = some v) (hfit : o + cs.length ≤ cur.size) (h1 : ∀ v ∈ cs, v.oneCell' = true) :
    (Builtin.copy_ #[dT, sT] ty #[.slice (some ⟨g, o, none⟩) dLen dCap, .slice (some a) sLen sCap]).run P w =
      .ok (goInt (Nat.min sLen dLen)) (w.setRow g (cur.toList.take o ++ cs ++ cur.toList.drop (o + cs.length)).toArray) := by
  have hl := run_loadCells_list (P := P) w a cs hsrc
  have hst := run_storeCells_at P g o t cs 0 cur w hg (by simpa using hfit) h1
  cases hq : P.info? elem with
  | none => simp [hq] at hs
  | some i =>
    have hi : i.size = z := by simpa [hq] using hs
    simp [Builtin.copy_, run_underlying hu, Builtin.lenOf, Builtin.firstCells, sizeOf, typeInfo, hq, hi, ← hn, hl, hst]

/-- A whole list copied over a row of the same length. -/
theorem run_copy_whole {P : Program} {w : World} (dT sT ty elem : TypeId) (hu : P.underlying dT = some (.slice elem)) (z : Nat) (hsz : (P.info? elem).map (·.size) = some z)
    (g n dCap : Nat) (ad : Addr) (sCap : Nat) (cur : Array Value) (t : TypeId) (hg : w.heap[g]? = some (.cells cur t (0, 0))) (cs : List Value) (hn : cs.length = n * z)
    (hsrc : ∀ j v, cs[j]? = some v → w.cell? (ad.add j) = some v) (hfit : cs.length = cur.size) (h1 : ∀ v ∈ cs, v.oneCell' = true) :
    ∃ w', (Builtin.copy_ #[dT, sT] ty #[.slice (some ⟨g, 0, none⟩) n dCap, .slice (some ad) n sCap]).run P w = .ok (goInt n) w' ∧ w'.heap[g]? = some (.cells cs.toArray t (0, 0)) ∧ w.grownBy w' (some g) := by
  have hrun := run_copy_many (P := P) w dT sT ty elem z g 0 n dCap ad n sCap cur t cs hu hsz hg (by rw [hn]; simp) hsrc (by omega) h1
  have hmin : Nat.min n n = n := by simp
  rw [hmin] at hrun
  refine ⟨_, hrun, ?_, ⟨rfl, rfl, rfl, by simp [World.setRow], fun k _ hr => setRow_other w g k _ (fun e => hr (by rw [e]))⟩⟩
  have e : cs ++ List.drop cs.length cur.toList = cs := by
    rw [List.drop_eq_nil_of_le (by simp; omega), List.append_nil]
  have := setRow_heap w g cur cs.toArray t _ hg
  simpa [e] using this

theorem madeCells_ent (n c : Nat) (hc : c < n * 11) : (madeCells (Value.agg #[.int .i64 0, .int .i64 0, .int .i64 0, .int .i64 0, .int .i64 0, .int .i64 0, .int .i64 0, .int .i64 0, .int .i64 0, .int .i64 0, .int .i64 0]).cells (n * 11))[c]? = some (.int .i64 0) := by
  have hm : c % 11 < 11 := by omega
  obtain ⟨m, hmm⟩ : ∃ m, m = c % 11 := ⟨_, rfl⟩
  unfold madeCells
  simp [hc, Value.cells]
  rw [← hmm] at hm ⊢
  rcases (show m = 0 ∨ m = 1 ∨ m = 2 ∨ m = 3 ∨ m = 4 ∨ m = 5 ∨ m = 6 ∨ m = 7 ∨ m = 8 ∨ m = 9 ∨ m = 10 by omega) with rfl | rfl | rfl | rfl | rfl | rfl | rfl | rfl | rfl | rfl | rfl <;> rfl

/-- A list of 32 free rows, made. -/
theorem make32 : ∃ Z : Array Value, (∀ w : World, (Instr.makeSlice 26 (.int .i64 32) (.int .i64 32)).run Try.prog w = .ok (.slice (some ⟨w.heap.size, 0, none⟩) 32 32) (w.alloc (.cells Z 50))) ∧
    ∀ w : World, Own (w.alloc (.cells Z 50)) w.heap.size 32 (fun _ _ => 0) := by
  obtain ⟨i0, hi, hz0, hz1, hz2⟩ := info_parts info_ent
  refine ⟨madeCells (Value.agg #[.int .i64 0, .int .i64 0, .int .i64 0, .int .i64 0, .int .i64 0, .int .i64 0, .int .i64 0, .int .i64 0, .int .i64 0, .int .i64 0, .int .i64 0]).cells (32 * 11), fun w => ?_, fun w => ?_⟩
  · have hr := run_make (P := Try.prog) w 26 50 i0 _ Try.underlying26 hi hz0 .i64 .i64 (32 : Nat) (32 : Nat) (by omega) (by omega) (by rw [hz2]; decide) (by decide)
    rw [hz1] at hr
    exact hr
  · refine ⟨by omega, _, _, Arr.lit (heap_alloc_new w _), by rw [size_madeCells]; omega, fun c hc => ?_⟩
    show (madeCells _ _)[c]?.getD undef = _
    rw [madeCells_ent 32 c hc]
    rfl

end Go.Proofs.Ythngbjmiblbohaa
