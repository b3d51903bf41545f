/-
  Lists of entities as they lie in memory; calls that make memory of their own and turn nothing that was there; a copy of a list whose elements are of many cells.
-/
import Derived.Test.YtiegccdgoemamaaGridArr
import Derived.Laws.CopyOwn
import Derived.Handy
import Derived.Deep.LoopGhost
namespace Go.Proofs.Ytiegccdgoemamaa
open Go.RowKit

theorem grown_trans {a b c : World} {r : Option Nat} (h : a.grownBy b r) (k : b.grownBy c r) : a.grownBy c r :=
  ⟨k.os.trans h.os, k.tape.trans h.tape, k.output.trans h.output, Nat.le_trans h.size k.size, fun i hi hr => (k.block i (Nat.lt_of_lt_of_le hi h.size) hr).trans (h.block i hi hr)⟩

theorem grown_own {a b c : World} {r s : Option Nat} (h : a.grownBy b r) (k : b.grownBy c s) (hs : ∀ n, s = some n → a.heap.size ≤ n) : a.grownBy c r :=
  ⟨k.os.trans h.os, k.tape.trans h.tape, k.output.trans h.output, Nat.le_trans h.size k.size, fun i hi hr => (k.block i (Nat.lt_of_lt_of_le hi h.size) (fun e => by have := hs i e.symm; omega)).trans (h.block i hi hr)⟩

theorem grown_none {a b c : World} {r : Option Nat} (h : a.grownBy b r) (k : b.grownBy c none) : a.grownBy c r := grown_own h k (fun _ e => by cases e)

theorem grown_alloc {a b : World} {r : Option Nat} (h : a.grownBy b r) (o : Obj) : a.grownBy (b.alloc o) r := grown_trans h (World.grownBy_alloc b o r)

theorem grown_drew {a b : World} {r : Option Nat} (h : a.grownBy b r) (n : Nat) : a.grownBy (b.drewN n) r := by
  have k := below_drewN (Below.refl b.heap.size b) n
  exact grown_trans h ⟨k.os, k.tape, k.output, k.size, fun i hi _ => k.block i hi⟩

theorem grown_store {a b : World} (h : a.grownBy b none) (p : Addr) (hp : a.heap.size ≤ p.block) (u : Value) : a.grownBy (b.setCell p u) none :=
  ⟨h.os, h.tape, h.output, by simpa using h.size, fun k hk hr => (heap_setCell_other b p k u (by omega)).trans (h.block k hk hr)⟩

theorem own_sets {a : World} {g : Nat} (hg : a.heap.size ≤ g) : ∀ (vs : List Value) (o : Nat) (b : World), a.grownBy b none → a.grownBy (b.setCells g o vs) none
  | [], _, _, h => h
  | v :: vs, o, b, h => own_sets hg vs (o + 1) (b.setCell ⟨g, o, none⟩ v) (grown_store h ⟨g, o, none⟩ hg v)

theorem none_below {a b : World} (h : a.grownBy b none) : Below a.heap.size a b :=
  ⟨h.os, h.tape, h.output, h.size, fun i hi => h.block i hi (fun e => by cases e)⟩

theorem below_grown {a b : World} (h : Below a.heap.size a b) : a.grownBy b none :=
  ⟨h.os, h.tape, h.output, h.size, fun i hi _ => h.block i hi⟩

theorem grown_cell {w w' : World} {r : Option Nat} (h : w.grownBy w' r) (b i : Nat) (hb : b < w.heap.size) (hr : r ≠ some b) : w'.cell? ⟨b, i, none⟩ = w.cell? ⟨b, i, none⟩ :=
  World.cell?_of_block (a := ⟨b, i, none⟩) (h.block b hb (fun e => hr e.symm))

/-- A call answers v; nothing that was there has turned. -/
def Says (w : World) (v : Value) (e : Ending) (w' : World) : Prop := e = .returned v ∧ w.grownBy w' none

theorem Arr.grown {w w' : World} {g : Nat} {T : TypeId} {n : Nat} {F : Nat → Value} {r : Option Nat} (h : Arr w g T n F) (hg : w.grownBy w' r) (hr : r ≠ some g) : Arr w' g T n F := by
  have hlt := h.lt
  obtain ⟨cur, h1, hs, hc⟩ := h
  exact ⟨cur, (hg.block g hlt (fun e => hr e.symm)).trans h1, hs, hc⟩

theorem Arr.alloc {w : World} {g : Nat} {T : TypeId} {n : Nat} {F : Nat → Value} (h : Arr w g T n F) (o : Obj) : Arr (w.alloc o) g T n F := h.grown (World.grownBy_alloc w o none) (by simp)

theorem Arr.lit {w : World} {g : Nat} {T : TypeId} {arr : Array Value} (h : w.heap[g]? = some (.cells arr T (0, 0))) : Arr w g T arr.size (fun j => arr[j]?.getD undef) :=
  ⟨arr, h, rfl, fun i hi => by
    show arr[i]? = some (arr[i]?.getD undef)
    rw [Array.getElem?_eq_getElem hi]
    rfl⟩

theorem Arr.stores {g n : Nat} {T : TypeId} : ∀ (vs : List Value) (o : Nat) (w : World) (F : Nat → Value), Arr w g T n F → Arr (w.setCells g o vs) g T n (fun j => if o ≤ j ∧ j < o + vs.length then vs[j - o]?.getD undef else F j)
  | [], o, w, F, h => h.congr fun j _ => by
      show F j = if o ≤ j ∧ j < o + 0 then _ else F j
      rw [if_neg (by omega)]
  | v :: vs, o, w, F, h => by
      have h1 := Arr.stores vs (o + 1) (w.setCell ⟨g, o, none⟩ v) _ (h.store o v)
      refine Arr.congr h1 fun j _ => ?_
      show (if o + 1 ≤ j ∧ j < o + 1 + vs.length then vs[j - (o + 1)]?.getD undef else if j = o then v else F j) = if o ≤ j ∧ j < o + (vs.length + 1) then (v :: vs)[j - o]?.getD undef else F j
      by_cases e : j = o
      · rw [if_neg (by omega), if_pos e, if_pos (by omega), e, Nat.sub_self]
        rfl
      · by_cases e2 : o + 1 ≤ j ∧ j < o + 1 + vs.length
        · rw [if_pos e2, if_pos (by omega), show j - o = (j - (o + 1)) + 1 by omega]
          rfl
        · rw [if_neg e2, if_neg e, if_neg (by omega)]

/-- The one cell of a new block; and a cell of an elder block behind a new one. -/
theorem cell_boxed (w : World) (v : Value) (T : TypeId) (B : Nat) (hB : B = w.heap.size) : (w.alloc (.cells #[v] T)).cell? ⟨B, 0, none⟩ = some v := by
  subst hB
  exact (Arr.lit (heap_alloc_new w (.cells #[v] T))).cell (i := 0) (by simp)

theorem cell_past {w : World} {B i : Nat} {v : Value} (o : Obj) (hB : B < w.heap.size) (h : w.cell? ⟨B, i, none⟩ = some v) : (w.alloc o).cell? ⟨B, i, none⟩ = some v :=
  (grown_cell (World.grownBy_alloc w o none) B i hB (by simp)).trans h

/-- An entity's cells: Kind, Gen, Seat, X, Y, HP, Max, Atk, Def, Poison, Stun. -/
def En.cells (e : Nat → Int) : Array Value := #[.int .i64 (e 0), .int .i64 (e 1), .int .i64 (e 2), .int .i64 (e 3), .int .i64 (e 4), .int .i64 (e 5), .int .i64 (e 6), .int .i64 (e 7), .int .i64 (e 8), .int .i64 (e 9), .int .i64 (e 10)]

/-- The cells of a list, one behind the other. -/
def En.flat (E : Nat → Nat → Int) : Nat → Value := fun c => .int .i64 (E (c / 11) (c % 11))

theorem En.flat_at (E : Nat → Nat → Int) (i j : Nat) (hj : j < 11) : En.flat E (i * 11 + j) = .int .i64 (E i j) := by
  unfold En.flat
  rw [show (i * 11 + j) / 11 = i by omega, show (i * 11 + j) % 11 = j by omega]

/-- A list of n entities at the head of block b: field j of row i is 'E i j'. -/
def Ents (w : World) (b n : Nat) (E : Nat → Nat → Int) : Prop :=
  n ≤ 32 ∧ b < w.heap.size ∧ ∀ i j, i < n → j < 11 → w.cell? ⟨b, i * 11 + j, none⟩ = some (.int .i64 (E i j))

theorem Ents.on {w w' : World} {b n : Nat} {E : Nat → Nat → Int} (h : Ents w b n E) (hg : w.grownBy w' none) : Ents w' b n E :=
  ⟨h.1, Nat.lt_of_lt_of_le h.2.1 hg.size, fun i j hi hj => (grown_cell hg b _ h.2.1 (by simp)).trans (h.2.2 i j hi hj)⟩

theorem Ents.congr {w : World} {b n : Nat} {E E' : Nat → Nat → Int} (h : Ents w b n E) (he : ∀ i j, i < n → j < 11 → E i j = E' i j) : Ents w b n E' :=
  ⟨h.1, h.2.1, fun i j hi hj => by rw [h.2.2 i j hi hj, he i j hi hj]⟩

theorem Arr.ents {w : World} {g n : Nat} {T : TypeId} {E : Nat → Nat → Int} (h : Arr w g T (n * 11) (En.flat E)) (hn : n ≤ 32) : Ents w g n E :=
  ⟨hn, h.lt, fun i j hi hj => by rw [h.cell (i := i * 11 + j) (by omega), En.flat_at E i j hj]⟩

/-- A list with one row other than it was. -/
def En.put (E : Nat → Nat → Int) (k : Nat) (e : Nat → Int) : Nat → Nat → Int := fun i => if i = k then e else E i

theorem En.put_same (E : Nat → Nat → Int) (k : Nat) (e : Nat → Int) : En.put E k e k = e := if_pos rfl
theorem En.put_other {E : Nat → Nat → Int} {k i : Nat} {e : Nat → Int} (h : i ≠ k) : En.put E k e i = E i := if_neg h

theorem En.cells_at (e : Nat → Int) (j : Nat) (hj : j < 11) : (En.cells e).toList[j]?.getD undef = .int .i64 (e j) := by
  rcases (show j = 0 ∨ j = 1 ∨ j = 2 ∨ j = 3 ∨ j = 4 ∨ j = 5 ∨ j = 6 ∨ j = 7 ∨ j = 8 ∨ j = 9 ∨ j = 10 by omega) with rfl | rfl | rfl | rfl | rfl | rfl | rfl | rfl | rfl | rfl | rfl <;> rfl

/-- 'copy' of elements of z cells each, into a row that is known whole. -/
theorem run_copy_many {P : Program} (w : World) (dT sT ty elem : TypeId) (z g o dLen dCap : Nat) (a : Addr) (sLen sCap : Nat) (cur : Array Value) (t : TypeId) (cs : List Value)
    (hu : P.underlying dT = some (.slice elem)) (hs : (P.info? elem).map (·.size) = some z)
    (hg : w.heap[g]? = some (.cells cur t (0, 0))) (hn : cs.length = Nat.min sLen dLen * z)
    (hsrc : ∀ j v, cs[j]? = some v → w.cell? (a.add j) = some v) (hfit : o + cs.length ≤ cur.size) (h1 : ∀ v ∈ cs, v.oneCell' = true) :
    (Builtin.copy_ #[dT, sT] ty #[.slice (some ⟨g, o, none⟩) dLen dCap, .slice (some a) sLen sCap]).run P w =
      .ok (goInt (Nat.min sLen dLen)) (w.setRow g (cur.toList.take o ++ cs ++ cur.toList.drop (o + cs.length)).toArray) := by
  have hl := run_loadCells_list (P := P) w a cs hsrc
  have hst := run_storeCells_at P g o t cs 0 cur w hg (by simpa using hfit) h1
  cases hq : P.info? elem with
  | none => simp [hq] at hs
  | some i =>
    have hi : i.size = z := by simpa [hq] using hs
    simp [Builtin.copy_, run_underlying hu, Builtin.lenOf, Builtin.firstCells, sizeOf, typeInfo, hq, hi, ← hn, hl, hst]

/-- A whole list copied over a row of the same length. -/
theorem run_copy_whole {P : Program} {w : World} (dT sT ty elem : TypeId) (hu : P.underlying dT = some (.slice elem)) (z : Nat) (hsz : (P.info? elem).map (·.size) = some z)
    (g n dCap : Nat) (ad : Addr) (sCap : Nat) (cur : Array Value) (t : TypeId) (hg : w.heap[g]? = some (.cells cur t (0, 0))) (cs : List Value) (hn : cs.length = n * z)
    (hsrc : ∀ j v, cs[j]? = some v → w.cell? (ad.add j) = some v) (hfit : cs.length = cur.size) (h1 : ∀ v ∈ cs, v.oneCell' = true) :
    ∃ w', (Builtin.copy_ #[dT, sT] ty #[.slice (some ⟨g, 0, none⟩) n dCap, .slice (some ad) n sCap]).run P w = .ok (goInt n) w' ∧ w'.heap[g]? = some (.cells cs.toArray t (0, 0)) ∧ w.grownBy w' (some g) := by
  have hrun := run_copy_many (P := P) w dT sT ty elem z g 0 n dCap ad n sCap cur t cs hu hsz hg (by rw [hn]; simp) hsrc (by omega) h1
  have hmin : Nat.min n n = n := by simp
  rw [hmin] at hrun
  refine ⟨_, hrun, ?_, ⟨rfl, rfl, rfl, by simp [World.setRow], fun k _ hr => setRow_other w g k _ (fun e => hr (by rw [e]))⟩⟩
  have e : cs ++ List.drop cs.length cur.toList = cs := by
    rw [List.drop_eq_nil_of_le (by simp; omega), List.append_nil]
  have := setRow_heap w g cur cs.toArray t _ hg
  simpa [e] using this

theorem madeCells_ent (n c : Nat) (hc : c < n * 11) : (madeCells (Value.agg #[.int .i64 0, .int .i64 0, .int .i64 0, .int .i64 0, .int .i64 0, .int .i64 0, .int .i64 0, .int .i64 0, .int .i64 0, .int .i64 0, .int .i64 0]).cells (n * 11))[c]? = some (.int .i64 0) := by
  have hm : c % 11 < 11 := by omega
  obtain ⟨m, hmm⟩ : ∃ m, m = c % 11 := ⟨_, rfl⟩
  unfold madeCells
  simp [hc, Value.cells]
  rw [← hmm] at hm ⊢
  rcases (show m = 0 ∨ m = 1 ∨ m = 2 ∨ m = 3 ∨ m = 4 ∨ m = 5 ∨ m = 6 ∨ m = 7 ∨ m = 8 ∨ m = 9 ∨ m = 10 by omega) with rfl | rfl | rfl | rfl | rfl | rfl | rfl | rfl | rfl | rfl | rfl <;> rfl

end Go.Proofs.Ytiegccdgoemamaa
