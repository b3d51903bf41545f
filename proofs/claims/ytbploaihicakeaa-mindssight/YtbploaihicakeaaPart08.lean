/-
  A floor, whole: as numbers, and what the program's Make hands back.
  Lists of entities as they lie in memory; calls that make memory of their own and turn nothing that was there; a copy of a list whose elements are of many cells.
  What the small functions of ents, of the document said again, and of the law package answer.
  The first row that is asked for: what the searches of ents, and those of the document said again, answer.
-/
import Derived.Test.YtbploaihicakeaaPart07
import Derived.Test.YtbploaihicakeaaPart03
import Derived.Test.YtbploaihicakeaaPart01
import Derived.Laws.CopyOwn
import Derived.Handy
import Derived.Deep.LoopGhost
import Derived.Deep.Quiet
import Derived.Deep.QuietTactic
namespace Go.Proofs.Ytbploaihicakeaa
open Go.RowKit

namespace Gn

def up (d : Dice) : Nat := (my d 0 * 24 + mx d 0).toNat

/-- The floor with rooms, corridors and the up stair. -/
def base (d : Dice) : Nat → Int := Gr.upd (dug d 5) (up d) 3

/-- c is the floor, F its field. -/
def IsLevel (d : Dice) (c F : Nat → Int) : Prop := ∃ far, Fld (base d) (up d) F ∧ IsFar F far ∧ c = stocked d (base d) F far

theorem IsLevel.one {d : Dice} {c c' F F' : Nat → Int} (h : IsLevel d c F) (h' : IsLevel d c' F') : c = c' ∧ F = F' := by
  obtain ⟨far, h1, h2, rfl⟩ := h
  obtain ⟨far', h1', h2', rfl⟩ := h'
  obtain rfl := h1.one h1'
  obtain rfl := h2.one h2'
  exact ⟨rfl, rfl⟩

def ents (d : Dice) (f : Int) (c F : Nat → Int) : List (Int × Nat) := mons d f (f + 2).toNat 0 ((those (fun i => c i == 1) 384).filter (afar F))

theorem up_eq {d : Dice} (hd : Fair d) : my d 0 * 24 + mx d 0 = ((up d : Nat) : Int) := by
  have := mid_bd hd 0
  unfold up
  omega

theorem base_5 (d : Dice) (i : Nat) : 0 ≤ base d i ∧ base d i ≤ 5 := upd_5 (dug_5 d 5) (by omega) i

theorem shopped_5 {c : Nat → Int} (h : ∀ i, 0 ≤ c i ∧ c i ≤ 5) (o : Option Nat) (i : Nat) : 0 ≤ shopped c o i ∧ shopped c o i ≤ 5 := by
  cases o with
  | none => exact h i
  | some k => exact upd_5 h (by omega) i

theorem stocked_5 (d : Dice) {c : Nat → Int} (h : ∀ i, 0 ≤ c i ∧ c i ≤ 5) (F : Nat → Int) (far i : Nat) : 0 ≤ stocked d c F far i ∧ stocked d c F far i ≤ 5 := by
  have h4 : ∀ i, 0 ≤ Gr.upd c far 4 i ∧ Gr.upd c far 4 i ≤ 5 := upd_5 h (by omega)
  unfold stocked
  split
  · exact shopped_5 h4 _ i
  · exact h4 i

theorem IsLevel.five {d : Dice} {c F : Nat → Int} (h : IsLevel d c F) (i : Nat) : 0 ≤ c i ∧ c i ≤ 5 := by
  obtain ⟨far, _, _, rfl⟩ := h
  exact stocked_5 d (base_5 d) F far i

end Gn

theorem owns_form {w : World} {b : Nat} {e : TypeId} {z n : Nat} {v : Value} {xs : List Value} (h : w.ownsRow b e z v n xs) : ∃ a cap, v = .slice a n cap := by
  rcases h.2 with ⟨rfl, rfl⟩ | ⟨g, cap, cur, rfl, _⟩
  · exact ⟨_, _, rfl⟩
  · exact ⟨_, _, rfl⟩

/-- What Make hands back of a floor that there is. -/
def LevDone (w : World) (d : Gn.Dice) (f : Int) (e : Ending) (w' : World) : Prop :=
  ∃ (c F : Nat → Int) (G nE nI cE cI : Nat) (aE aI : Option Addr), Gn.IsLevel d c F ∧ e = .returned (.tuple #[.agg #[.slice (some ⟨G, 0, none⟩) 384 384, .slice aE nE cE, .slice aI nI cI], .int .i64 0]) ∧ w.heap.size ≤ G ∧ Arr w' G 5 384 (Byts c) ∧
    nE = (Gn.ents d f c F).length ∧ nI = (Gn.items d c).length ∧ w'.ownsRow w.heap.size 36 11 (.slice aE nE cE) nE (Gn.flat (Gn.ents d f c F)) ∧ w'.ownsRow w.heap.size 57 4 (.slice aI nI cI) nI (Gn.flatI (Gn.items d c)) ∧ w.grownBy w' none

end Go.Proofs.Ytbploaihicakeaa

namespace Go.Proofs.Ytbploaihicakeaa
open Go.RowKit

theorem own_sets {a : World} {g : Nat} (hg : a.heap.size ≤ g) : ∀ (vs : List Value) (o : Nat) (b : World), a.grownBy b none → a.grownBy (b.setCells g o vs) none
  | [], _, _, h => h
  | v :: vs, o, b, h => own_sets hg vs (o + 1) (b.setCell ⟨g, o, none⟩ v) (grown_store h ⟨g, o, none⟩ hg v)

theorem none_below {a b : World} (h : a.grownBy b none) : Below a.heap.size a b :=
  ⟨h.os, h.tape, h.output, h.size, fun i hi => h.block i hi (fun e => by cases e)⟩

/-- The one cell of a new block; and a cell of an elder block behind a new one. -/
theorem cell_boxed (w : World) (v : Value) (T : TypeId) (B : Nat) (hB : B = w.heap.size) : (w.alloc (.cells #[v] T)).cell? ⟨B, 0, none⟩ = some v := by
  subst hB
  exact (Arr.lit (heap_alloc_new w (.cells #[v] T))).cell (i := 0) (by simp)

theorem cell_past {w : World} {B i : Nat} {v : Value} (o : Obj) (hB : B < w.heap.size) (h : w.cell? ⟨B, i, none⟩ = some v) : (w.alloc o).cell? ⟨B, i, none⟩ = some v :=
  (grown_cell (World.grownBy_alloc w o none) B i hB (by simp)).trans h

/-- An entity's cells: Kind, Gen, Seat, X, Y, HP, Max, Atk, Def, Poison, Stun. -/
def En.cells (e : Nat → Int) : Array Value := #[.int .i64 (e 0), .int .i64 (e 1), .int .i64 (e 2), .int .i64 (e 3), .int .i64 (e 4), .int .i64 (e 5), .int .i64 (e 6), .int .i64 (e 7), .int .i64 (e 8), .int .i64 (e 9), .int .i64 (e 10)]

/-- The cells of a list, one behind the other. -/
def En.flat (E : Nat → Nat → Int) : Nat → Value := fun c => .int .i64 (E (c / 11) (c % 11))

theorem En.flat_at (E : Nat → Nat → Int) (i j : Nat) (hj : j < 11) : En.flat E (i * 11 + j) = .int .i64 (E i j) := by
  unfold En.flat
  rw [show (i * 11 + j) / 11 = i by omega, show (i * 11 + j) % 11 = j by omega]

/-- A list of n entities at the head of block b: field j of row i is 'E i j'. -/
def Ents (w : World) (b n : Nat) (E : Nat → Nat → Int) : Prop :=
  n ≤ 32 ∧ b < w.heap.size ∧ ∀ i j, i < n → j < 11 → w.cell? ⟨b, i * 11 + j, none⟩ = some (.int .i64 (E i j))

theorem Ents.on {w w' : World} {b n : Nat} {E : Nat → Nat → Int} (h : Ents w b n E) (hg : w.grownBy w' none) : Ents w' b n E :=
  ⟨h.1, Nat.lt_of_lt_of_le h.2.1 hg.size, fun i j hi hj => (grown_cell hg b _ h.2.1 (by simp)).trans (h.2.2 i j hi hj)⟩

theorem Ents.congr {w : World} {b n : Nat} {E E' : Nat → Nat → Int} (h : Ents w b n E) (he : ∀ i j, i < n → j < 11 → E i j = E' i j) : Ents w b n E' :=
  ⟨h.1, h.2.1, fun i j hi hj => by rw [h.2.2 i j hi hj, he i j hi hj]⟩

theorem Arr.ents {w : World} {g n : Nat} {T : TypeId} {E : Nat → Nat → Int} (h : Arr w g T (n * 11) (En.flat E)) (hn : n ≤ 32) : Ents w g n E :=
  ⟨hn, h.lt, fun i j hi hj => by rw [h.cell (i := i * 11 + j) (by omega), En.flat_at E i j hj]⟩

/-- A list of n entities at the head of a block that the call itself has made; there may be spare room behind them. -/
def Own (w : World) (g n : Nat) (E : Nat → Nat → Int) : Prop :=
  n ≤ 32 ∧ ∃ m F, Arr w g 36 m F ∧ n * 11 ≤ m ∧ ∀ c, c < n * 11 → F c = En.flat E c

theorem Own.ents {w : World} {g n : Nat} {E : Nat → Nat → Int} (h : Own w g n E) : Ents w g n E := by
  obtain ⟨hn, m, F, hA, hm, hF⟩ := h
  exact ⟨hn, hA.lt, fun i j hi hj => by rw [hA.cell (i := i * 11 + j) (by omega), hF _ (by omega), En.flat_at E i j hj]⟩

theorem Own.on {w w' : World} {g n : Nat} {E : Nat → Nat → Int} (h : Own w g n E) (hg : w.grownBy w' none) : Own w' g n E := by
  obtain ⟨hn, m, F, hA, hm, hF⟩ := h
  exact ⟨hn, m, F, hA.grown hg (by simp), hm, hF⟩

theorem Own.free {w : World} {g n : Nat} {E : Nat → Nat → Int} (h : Own w g n E) (i : Nat) : w.frozen? ⟨g, i, none⟩ = false := by
  obtain ⟨hn, m, F, hA, hm, hF⟩ := h
  exact hA.free i

theorem Own.lt {w : World} {g n : Nat} {E : Nat → Nat → Int} (h : Own w g n E) : g < w.heap.size := h.ents.2.1

theorem Own.congr {w : World} {g n : Nat} {E E' : Nat → Nat → Int} (h : Own w g n E) (he : ∀ i j, i < n → j < 11 → E i j = E' i j) : Own w g n E' := by
  obtain ⟨hn, m, F, hA, hm, hF⟩ := h
  refine ⟨hn, m, F, hA, hm, fun c hc => ?_⟩
  rw [hF c hc]
  unfold En.flat
  rw [he _ _ (by omega) (by omega)]

/-- A list with one row other than it was. -/
def En.put (E : Nat → Nat → Int) (k : Nat) (e : Nat → Int) : Nat → Nat → Int := fun i => if i = k then e else E i

theorem En.put_same (E : Nat → Nat → Int) (k : Nat) (e : Nat → Int) : En.put E k e k = e := if_pos rfl
theorem En.put_other {E : Nat → Nat → Int} {k i : Nat} {e : Nat → Int} (h : i ≠ k) : En.put E k e i = E i := if_neg h

theorem En.cells_at (e : Nat → Int) (j : Nat) (hj : j < 11) : (En.cells e).toList[j]?.getD undef = .int .i64 (e j) := by
  rcases (show j = 0 ∨ j = 1 ∨ j = 2 ∨ j = 3 ∨ j = 4 ∨ j = 5 ∨ j = 6 ∨ j = 7 ∨ j = 8 ∨ j = 9 ∨ j = 10 by omega) with rfl | rfl | rfl | rfl | rfl | rfl | rfl | rfl | rfl | rfl | rfl <;> rfl

theorem Own.store {w : World} {g n : Nat} {E : Nat → Nat → Int} (h : Own w g n E) (k : Nat) (e : Nat → Int) : Own (w.setCells g (k * 11) (En.cells e).toList) g n (En.put E k e) := by
  obtain ⟨hn, m, F, hA, hm, hF⟩ := h
  refine ⟨hn, m, _, hA.stores (En.cells e).toList (k * 11), hm, fun c hc => ?_⟩
  show (if k * 11 ≤ c ∧ c < k * 11 + 11 then (En.cells e).toList[c - k * 11]?.getD undef else F c) = En.flat (En.put E k e) c
  unfold En.flat
  by_cases hk : k * 11 ≤ c ∧ c < k * 11 + 11
  · rw [if_pos hk, En.cells_at e _ (by omega), show c / 11 = k by omega, En.put_same, show c - k * 11 = c % 11 by omega]
  · rw [if_neg hk, hF c hc, En.put_other (by omega)]
    rfl

theorem Own.of_owns {w : World} {base g n cap : Nat} {xs : List Value} {E : Nat → Nat → Int} (h : w.ownsRow base 36 11 (.slice (some ⟨g, 0, none⟩) n cap) n xs) (hn : n ≤ 32) (hx : ∀ c, c < n * 11 → xs[c]? = some (En.flat E c)) : Own w g n E := by
  rcases h.2 with ⟨h', _⟩ | ⟨g', cap', cur, h', _, hg, hnc, _, hcs, htake⟩
  · simp at h'
  · simp only [Value.slice.injEq, Option.some.injEq, Addr.mk.injEq, and_true, true_and] at h'
    obtain ⟨rfl, rfl⟩ := h'
    refine ⟨hn, cur.size, fun j => cur[j]?.getD undef, Arr.lit hg, by rw [hcs]; omega, fun c hc => ?_⟩
    show cur[c]?.getD undef = _
    have e := hx c hc
    rw [← htake, List.getElem?_take, if_pos hc, Array.getElem?_toList] at e
    rw [e]
    rfl

/-- A call hands back a list of its own; nothing that was there has turned. -/
def Lists (w : World) (n : Nat) (E : Nat → Nat → Int) (e : Ending) (w' : World) : Prop :=
  ∃ g cap, e = .returned (.slice (some ⟨g, 0, none⟩) n cap) ∧ w.heap.size ≤ g ∧ n ≤ cap ∧ cap ≤ maxLen ∧ Own w' g n E ∧ w.grownBy w' none

/-- 'copy' of elements of z cells each, into a row that is known whole. -/
theorem run_copy_many {P : Program} (w : World) (dT sT ty elem : TypeId) (z g o dLen dCap : Nat) (a : Addr) (sLen sCap : Nat) (cur : Array Value) (t : TypeId) (cs : List Value)
    (hu : P.underlying dT = some (.slice elem)) (hs : (P.info? elem).map (·.size) = some z)
    (hg : w.heap[g]? = some (.cells cur t (0, 0))) (hn : cs.length = Nat.min sLen dLen * z)
    (hsrc : ∀ j v, cs[j]? = some v → w.cell? (a.add j) = some v) (hfit : o + cs.length ≤ cur.size) (h1 : ∀ v ∈ cs, v.oneCell' = true) :
    (Builtin.copy_ #[dT, sT] ty #[.slice (some ⟨g, o, none⟩) dLen dCap, .slice (some a) sLen sCap]).run P w =
      .ok (goInt (Nat.min sLen dLen)) (w.setRow g (cur.toList.take o ++ cs ++ cur.toList.drop (o + cs.length)).toArray) := by
  have hl := run_loadCells_list (P := P) w a cs hsrc
  have hst := run_storeCells_at P g o t cs 0 cur w hg (by simpa using hfit) h1
  cases hq : P.info? elem with
  | none => simp [hq] at hs
  | some i =>
    have hi : i.size = z := by simpa [hq] using hs
    simp [Builtin.copy_, run_underlying hu, Builtin.lenOf, Builtin.firstCells, sizeOf, typeInfo, hq, hi, ← hn, hl, hst]

/-- A whole list copied over a row of the same length. -/
theorem run_copy_whole {P : Program} {w : World} (dT sT ty elem : TypeId) (hu : P.underlying dT = some (.slice elem)) (z : Nat) (hsz : (P.info? elem).map (·.size) = some z)
    (g n dCap : Nat) (ad : Addr) (sCap : Nat) (cur : Array Value) (t : TypeId) (hg : w.heap[g]? = some (.cells cur t (0, 0))) (cs : List Value) (hn : cs.length = n * z)
    (hsrc : ∀ j v, cs[j]? = some v → w.cell? (ad.add j) = some v) (hfit : cs.length = cur.size) (h1 : ∀ v ∈ cs, v.oneCell' = true) :
    ∃ w', (Builtin.copy_ #[dT, sT] ty #[.slice (some ⟨g, 0, none⟩) n dCap, .slice (some ad) n sCap]).run P w = .ok (goInt n) w' ∧ w'.heap[g]? = some (.cells cs.toArray t (0, 0)) ∧ w.grownBy w' (some g) := by
  have hrun := run_copy_many (P := P) w dT sT ty elem z g 0 n dCap ad n sCap cur t cs hu hsz hg (by rw [hn]; simp) hsrc (by omega) h1
  have hmin : Nat.min n n = n := by simp
  rw [hmin] at hrun
  refine ⟨_, hrun, ?_, ⟨rfl, rfl, rfl, by simp [World.setRow], fun k _ hr => setRow_other w g k _ (fun e => hr (by rw [e]))⟩⟩
  have e : cs ++ List.drop cs.length cur.toList = cs := by
    rw [List.drop_eq_nil_of_le (by simp; omega), List.append_nil]
  have := setRow_heap w g cur cs.toArray t _ hg
  simpa [e] using this

theorem madeCells_ent (n c : Nat) (hc : c < n * 11) : (madeCells (Value.agg #[.int .i64 0, .int .i64 0, .int .i64 0, .int .i64 0, .int .i64 0, .int .i64 0, .int .i64 0, .int .i64 0, .int .i64 0, .int .i64 0, .int .i64 0]).cells (n * 11))[c]? = some (.int .i64 0) := by
  have hm : c % 11 < 11 := by omega
  obtain ⟨m, hmm⟩ : ∃ m, m = c % 11 := ⟨_, rfl⟩
  unfold madeCells
  simp [hc, Value.cells]
  rw [← hmm] at hm ⊢
  rcases (show m = 0 ∨ m = 1 ∨ m = 2 ∨ m = 3 ∨ m = 4 ∨ m = 5 ∨ m = 6 ∨ m = 7 ∨ m = 8 ∨ m = 9 ∨ m = 10 by omega) with rfl | rfl | rfl | rfl | rfl | rfl | rfl | rfl | rfl | rfl | rfl <;> rfl

/-- A list of 32 free rows, made. -/
theorem make32 : ∃ Z : Array Value, (∀ w : World, (Instr.makeSlice 26 (.int .i64 32) (.int .i64 32)).run Try.prog w = .ok (.slice (some ⟨w.heap.size, 0, none⟩) 32 32) (w.alloc (.cells Z 36))) ∧
    ∀ w : World, Own (w.alloc (.cells Z 36)) w.heap.size 32 (fun _ _ => 0) := by
  obtain ⟨i0, hi, hz0, hz1, hz2⟩ := info_parts info_ent
  refine ⟨madeCells (Value.agg #[.int .i64 0, .int .i64 0, .int .i64 0, .int .i64 0, .int .i64 0, .int .i64 0, .int .i64 0, .int .i64 0, .int .i64 0, .int .i64 0, .int .i64 0]).cells (32 * 11), fun w => ?_, fun w => ?_⟩
  · have hr := run_make (P := Try.prog) w 26 36 i0 _ Try.underlying26 hi hz0 .i64 .i64 (32 : Nat) (32 : Nat) (by omega) (by omega) (by rw [hz2]; decide) (by decide)
    rw [hz1] at hr
    exact hr
  · refine ⟨by omega, _, _, Arr.lit (heap_alloc_new w _), by rw [size_madeCells]; omega, fun c hc => ?_⟩
    show (madeCells _ _)[c]?.getD undef = _
    rw [madeCells_ent 32 c hc]
    rfl

end Go.Proofs.Ytbploaihicakeaa

namespace Go.Proofs.Ytbploaihicakeaa
open Go.RowKit

theorem isFree_any (e : Nat → Int) (w : World) : Calls Try.prog 56 #[.agg (En.cells e)] w (Says w (.bool (decide (e 0 = 0)))) := by
  unfold En.cells
  go_enter Try.func56, Try.ntmps56
  go_wp2
  go_ret
  exact ⟨rfl, World.grownBy_alloc _ _ _⟩

theorem slice_ents (a : Option Addr) (len cap k : Nat) (w : World) (hk : k ≤ cap) :
    (Instr.slice 26 (.slice a len cap) none (some (.int .i64 (k : Int))) none).run Try.prog w = .ok (.slice a k cap) w := by
  have hs : (sizeOf (Try.prog.elem 26)).run Try.prog w = .ok 11 w := by kernel_rfl
  rw [run_slice_h w 26 a len cap (by kernel_rfl) .i64 (k : Int) (by omega) (by omega), hs]
  have e : a.map (fun x => x.add (0 * 11)) = a := by
    cases a with
    | none => rfl
    | some x => simp [Addr.add]
  simp only [Result.andThen, sliced, e, Int.toNat_natCast, Nat.sub_zero, ite_self]

theorem rows_any (a : Option Addr) (n c : Nat) (w : World) (hn : n ≤ 32) (hc : n ≤ c) :
    Calls Try.prog 58 #[.slice a n c] w fun e w' => e = .returned (.slice a n c) ∧ w' = w := by
  have hs := fun wx => slice_ents a n c n wx hc
  have hm : min (n : Int) 32 = (n : Int) := by omega
  go_enter Try.func58, Try.ntmps58
  go_wp2
  go_ret
  exact ⟨rfl, rfl⟩

def En.isRow (n : Nat) (row : Int) : Bool := decide (0 ≤ row ∧ row < n)

theorem isRow_any (a : Option Addr) (n c : Nat) (row : Int) (w : World) (hn : n ≤ 32) (hc : n ≤ c) :
    Calls Try.prog 55 #[.slice a n c, .int .i64 row] w fun e w' => e = .returned (.bool (En.isRow n row)) ∧ w' = w := by
  have hn' : (n : Int) ≤ 32 := by omega
  by_cases h : 0 ≤ row
  · by_cases h2 : row < (n : Int)
    · have hd : Hid (En.isRow n row = true) := decide_eq_true (show 0 ≤ row ∧ row < (n : Int) from ⟨h, h2⟩)
      go_enter Try.func55, Try.ntmps55
      go_wp2_with (go_at_call 58; refine (rows_any _ _ _ _ hn hc).mono ?_; rintro e w' ⟨rfl, hw⟩; subst w')
      go_ret
      exact ⟨ret_bool (unhide hd).symm, rfl⟩
    · have hd : Hid (En.isRow n row = false) := decide_eq_false (show ¬ (0 ≤ row ∧ row < (n : Int)) by omega)
      go_enter Try.func55, Try.ntmps55
      go_wp2_with (go_at_call 58; refine (rows_any _ _ _ _ hn hc).mono ?_; rintro e w' ⟨rfl, hw⟩; subst w')
      go_ret
      exact ⟨ret_bool ((decide_eq_false (show ¬ row < (n : Int) by omega)).trans (unhide hd).symm), rfl⟩
  · have hd : Hid (En.isRow n row = false) := decide_eq_false (show ¬ (0 ≤ row ∧ row < (n : Int)) by omega)
    go_enter Try.func55, Try.ntmps55
    go_wp2
    go_ret
    exact ⟨ret_bool (unhide hd).symm, rfl⟩

/-- A row's id: -1, if there is no such row, or it is free. -/
def En.id (n : Nat) (E : Nat → Nat → Int) (row : Int) : Int := if 0 ≤ row ∧ row < n ∧ E row.toNat 0 ≠ 0 then row + 32 * E row.toNat 1 else -1

theorem En.id_at {n : Nat} {E : Nat → Nat → Int} {k : Nat} (hk : k < n) (h : E k 0 ≠ 0) : En.id n E (k : Int) = (k : Int) + 32 * E k 1 := by
  unfold En.id
  rw [Int.toNat_natCast, if_pos ⟨by omega, by omega, h⟩]

theorem En.id_free {n : Nat} {E : Nat → Nat → Int} {k : Nat} (h : E k 0 = 0) : En.id n E (k : Int) = -1 := by
  unfold En.id
  rw [Int.toNat_natCast, if_neg (by rintro ⟨_, _, h'⟩; exact h' h)]

theorem En.id_out {n : Nat} {E : Nat → Nat → Int} {row : Int} (h : ¬ (0 ≤ row ∧ row < n)) : En.id n E row = -1 := by
  unfold En.id
  rw [if_neg (by rintro ⟨h1, h2, _⟩; exact h ⟨h1, h2⟩)]

/-- Gen is 0 to 255. -/
def En.Gens (n : Nat) (E : Nat → Nat → Int) : Prop := ∀ i, i < n → 0 ≤ E i 1 ∧ E i 1 ≤ 255

set_option maxHeartbeats 800000 in
theorem id_any (b n c : Nat) (E : Nat → Nat → Int) (row : Int) (w : World) (hE : Ents w b n E) (hc : n ≤ c) (hG : En.Gens n E) :
    Calls Try.prog 45 #[.slice (some ⟨b, 0, none⟩) n c, .int .i64 row] w (Says w (.int .i64 (En.id n E row))) := by
  have hn := hE.1
  have cr : ∀ x : World, Calls Try.prog 55 #[.slice (some ⟨b, 0, none⟩) n c, .int .i64 row] x fun e w' => e = .returned (.bool (En.isRow n row)) ∧ w' = x := fun x => isRow_any _ n c row x hn hc
  by_cases h : 0 ≤ row ∧ row < (n : Int)
  · obtain ⟨k, rfl⟩ : ∃ k : Nat, row = (k : Int) := ⟨row.toNat, by omega⟩
    have hk : k < n := by omega
    have hk' : (k : Int) < (n : Int) := by omega
    have hk32 : (k : Int) < 32 := by omega
    obtain ⟨g0, g1⟩ := hG k hk
    have hd : En.isRow n (k : Int) = true := decide_eq_true h
    rw [hd] at cr
    have u : ∀ j, j < 11 → w.cell? ⟨b, k * 11 + j, none⟩ = some (.int .i64 (E k j)) := fun j hj => hE.2.2 k j hk hj
    have u0 := u 0 (by omega)
    rw [Nat.add_zero] at u0
    have u1 := u 1 (by omega)
    have u2 := u 2 (by omega)
    have u3 := u 3 (by omega)
    have u4 := u 4 (by omega)
    have u5 := u 5 (by omega)
    have u6 := u 6 (by omega)
    have u7 := u 7 (by omega)
    have u8 := u 8 (by omega)
    have u9 := u 9 (by omega)
    have u10 := u 10 (by omega)
    have hE' := hide hE
    have cf := hide (isFree_any (E k) w)
    have keep : Hid (∀ x, w.grownBy x none → x.cell? ⟨b, k * 11 + 1, none⟩ = some (.int .i64 (E k 1))) := fun x hg => (hE.on hg).2.2 k 1 hk (by omega)
    clear hE hG hd u h
    by_cases hf : E k 0 = 0
    · have he := hide (En.id_free (n := n) hf)
      have hfd := hide (decide_eq_true hf)
      clear hf
      go_enter Try.func45, Try.ntmps45
      go_wp2_with (go_at_call 55; refine (cr _).mono ?_; rintro e w' ⟨rfl, hw⟩; subst w')
      refine (unhide cf).mono ?_
      rintro e w1 ⟨rfl, hg⟩
      rw [unhide hfd]
      have hg' := hide hg
      clear u0 u1 u2 u3 u4 u5 u6 u7 u8 u9 u10 hg
      go_wp2
      go_ret
      exact ⟨ret_int (unhide he).symm, unhide hg'⟩
    · have he := hide (En.id_at hk hf)
      have hfd := hide (decide_eq_false hf)
      clear hf
      go_enter Try.func45, Try.ntmps45
      go_wp2_with (go_at_call 55; refine (cr _).mono ?_; rintro e w' ⟨rfl, hw⟩; subst w')
      refine (unhide cf).mono ?_
      rintro e w1 ⟨rfl, hg⟩
      rw [unhide hfd]
      have u := unhide keep w1 hg
      have hg' := hide hg
      clear u0 u1 u2 u3 u4 u5 u6 u7 u8 u9 u10 hg
      go_wp2
      go_ret
      exact ⟨ret_int (unhide he).symm, unhide hg'⟩
  · have he := hide (En.id_out (E := E) h)
    have hd : En.isRow n row = false := decide_eq_false h
    rw [hd] at cr
    clear hE hG hd h
    go_enter Try.func45, Try.ntmps45
    go_wp2_with (go_at_call 55; refine (cr _).mono ?_; rintro e w' ⟨rfl, hw⟩; subst w')
    go_ret
    exact ⟨ret_int (unhide he).symm, World.grownBy.refl _ _⟩

end Go.Proofs.Ytbploaihicakeaa

namespace Go.Proofs.Ytbploaihicakeaa
open Go.RowKit

/-- The first of so many numbers, from one on, that a test lets by; -1: there is none. -/
def En.firstFrom (q : Nat → Bool) : Nat → Nat → Int
  | 0, _ => -1
  | m + 1, k => if q k = true then (k : Int) else En.firstFrom q m (k + 1)

def En.first (q : Nat → Bool) (n : Nat) : Int := En.firstFrom q n 0

theorem En.from_hit {q : Nat → Bool} : ∀ (m k i : Nat), (∀ j, i ≤ j → j < k → q j = false) → q k = true → i ≤ k → k < i + m → En.firstFrom q m i = (k : Int)
  | 0, k, i, _, _, h1, h2 => by omega
  | m + 1, k, i, hno, hk, h1, h2 => by
      unfold En.firstFrom
      by_cases e : i = k
      · rw [e, if_pos hk]
      · rw [if_neg (by rw [hno i (Nat.le_refl _) (by omega)]; simp), En.from_hit m k (i + 1) (fun j hj1 hj2 => hno j (by omega) hj2) hk (by omega) (by omega)]

theorem En.from_none {q : Nat → Bool} : ∀ (m i : Nat), (∀ j, i ≤ j → j < i + m → q j = false) → En.firstFrom q m i = -1
  | 0, _, _ => rfl
  | m + 1, i, hno => by
      unfold En.firstFrom
      rw [if_neg (by rw [hno i (Nat.le_refl _) (by omega)]; simp), En.from_none m (i + 1) (fun j hj1 hj2 => hno j (by omega) (by omega))]

theorem En.first_hit {q : Nat → Bool} {n k : Nat} (hno : ∀ j, j < k → q j = false) (hk : q k = true) (hn : k < n) : En.first q n = (k : Int) :=
  En.from_hit n k 0 (fun j _ h => hno j h) hk (by omega) (by omega)

theorem En.first_none {q : Nat → Bool} {n : Nat} (hno : ∀ j, j < n → q j = false) : En.first q n = -1 :=
  En.from_none n 0 (fun j _ h => hno j (by omega))

theorem En.first_cases (q : Nat → Bool) (n : Nat) : (En.first q n = -1 ∧ ∀ j, j < n → q j = false) ∨ ∃ k, k < n ∧ En.first q n = (k : Int) ∧ q k = true ∧ ∀ j, j < k → q j = false := by
  induction n with
  | zero => exact .inl ⟨rfl, fun j h => by omega⟩
  | succ n ih =>
    rcases ih with ⟨_, hno⟩ | ⟨k, hk, _, hq, hno⟩
    · by_cases hq : q n = true
      · exact .inr ⟨n, by omega, En.first_hit hno hq (by omega), hq, hno⟩
      · have h : ∀ j, j < n + 1 → q j = false := fun j hj => by
          by_cases e : j = n
          · rw [e]; simpa using hq
          · exact hno j (by omega)
        exact .inl ⟨En.first_none h, h⟩
    · exact .inr ⟨k, by omega, En.first_hit hno hq (by omega), hq, hno⟩

theorem En.first_congr {q r : Nat → Bool} {n : Nat} (h : ∀ j, j < n → q j = r j) : En.first q n = En.first r n := by
  rcases En.first_cases q n with ⟨h1, hno⟩ | ⟨k, hk, h1, hq, hno⟩
  · rw [h1, En.first_none (fun j hj => (h j hj).symm.trans (hno j hj))]
  · rw [h1, En.first_hit (fun j hj => (h j (by omega)).symm.trans (hno j hj)) ((h k hk).symm.trans hq) hk]

def En.freeQ (E : Nat → Nat → Int) : Nat → Bool := fun i => decide (E i 0 = 0)
def En.atQ (E : Nat → Nat → Int) (x y : Int) : Nat → Bool := fun i => !(decide (E i 0 = 0)) && (decide (E i 3 = x) && decide (E i 4 = y))
def En.heroQ (E : Nat → Nat → Int) (s : Int) : Nat → Bool := fun i => decide (E i 0 = 1) && decide (E i 2 = s)
def En.ofQ (E : Nat → Nat → Int) (id : Int) : Nat → Bool := fun i => !(decide (E i 0 = 0)) && decide ((i : Int) + 32 * E i 1 = id)

theorem Ents.row {w : World} {b n : Nat} {E : Nat → Nat → Int} (h : Ents w b n E) {k : Nat} (hk : k < n) :
    w.cell? ⟨b, k * 11, none⟩ = some (.int .i64 (E k 0)) ∧ w.cell? ⟨b, k * 11 + 1, none⟩ = some (.int .i64 (E k 1)) ∧ w.cell? ⟨b, k * 11 + 2, none⟩ = some (.int .i64 (E k 2)) ∧ w.cell? ⟨b, k * 11 + 3, none⟩ = some (.int .i64 (E k 3)) ∧
    w.cell? ⟨b, k * 11 + 4, none⟩ = some (.int .i64 (E k 4)) ∧ w.cell? ⟨b, k * 11 + 5, none⟩ = some (.int .i64 (E k 5)) ∧ w.cell? ⟨b, k * 11 + 6, none⟩ = some (.int .i64 (E k 6)) ∧ w.cell? ⟨b, k * 11 + 7, none⟩ = some (.int .i64 (E k 7)) ∧
    w.cell? ⟨b, k * 11 + 8, none⟩ = some (.int .i64 (E k 8)) ∧ w.cell? ⟨b, k * 11 + 9, none⟩ = some (.int .i64 (E k 9)) ∧ w.cell? ⟨b, k * 11 + 10, none⟩ = some (.int .i64 (E k 10)) :=
  ⟨h.2.2 k 0 hk (by omega), h.2.2 k 1 hk (by omega), h.2.2 k 2 hk (by omega), h.2.2 k 3 hk (by omega), h.2.2 k 4 hk (by omega), h.2.2 k 5 hk (by omega), h.2.2 k 6 hk (by omega), h.2.2 k 7 hk (by omega), h.2.2 k 8 hk (by omega), h.2.2 k 9 hk (by omega), h.2.2 k 10 hk (by omega)⟩

theorem atC_any (b n c p0 p1 p2 k : Nat) (E : Nat → Nat → Int) (x y : Int) (w : World) (hE : Ents w b n E) (hk : k < n) (hp0 : w.cell? ⟨p0, 0, none⟩ = some (.slice (some ⟨b, 0, none⟩) n c)) (hp1 : w.cell? ⟨p1, 0, none⟩ = some (.int .i64 x)) (hp2 : w.cell? ⟨p2, 0, none⟩ = some (.int .i64 y)) :
    Calls Try.prog 101 #[.int .i64 (k : Int), .pointer (some ⟨p0, 0, none⟩), .pointer (some ⟨p1, 0, none⟩), .pointer (some ⟨p2, 0, none⟩)] w (Says w (.bool (decide (E k 3 = x) && decide (E k 4 = y)))) := by
  obtain ⟨_, _, _, u3, u4, _⟩ := hE.row hk
  have hk' : (k : Int) < (n : Int) := by omega
  have hdr : Hid (∀ m, w.grownBy (w.drewN m) none) := fun m => grown_drew (World.grownBy.refl _ _) m
  clear hE
  by_cases h3 : E k 3 = x
  · by_cases h4 : E k 4 = y
    · have hd := hide (show (decide (E k 3 = x) && decide (E k 4 = y)) = true by simp [h3, h4])
      rw [h3] at u3
      rw [h4] at u4
      clear h3 h4
      go_enter Try.func101, Try.ntmps101
      go_wp2_with fail
      go_quiet (fail)
      go_wp2
      go_ret
      exact ⟨ret_bool (unhide hd).symm, unhide hdr _⟩
    · have hd := hide (show (decide (E k 3 = x) && decide (E k 4 = y)) = false by simp [h4])
      rw [h3] at u3
      clear h3
      go_enter Try.func101, Try.ntmps101
      go_wp2_with fail
      go_quiet (fail)
      go_wp2
      go_ret
      exact ⟨ret_bool (unhide hd).symm, unhide hdr _⟩
  · have hd := hide (show (decide (E k 3 = x) && decide (E k 4 = y)) = false by simp [h3])
    go_enter Try.func101, Try.ntmps101
    go_wp2_with fail
    go_quiet (fail)
    go_wp2
    go_ret
    exact ⟨ret_bool (unhide hd).symm, unhide hdr _⟩

theorem heroC_any (b n c p0 p1 k : Nat) (E : Nat → Nat → Int) (seat : Int) (w : World) (hE : Ents w b n E) (hk : k < n) (hp0 : w.cell? ⟨p0, 0, none⟩ = some (.slice (some ⟨b, 0, none⟩) n c)) (hp1 : w.cell? ⟨p1, 0, none⟩ = some (.int .i64 seat)) :
    Calls Try.prog 49 #[.int .i64 (k : Int), .pointer (some ⟨p0, 0, none⟩), .pointer (some ⟨p1, 0, none⟩)] w (Says w (.bool (decide (E k 0 = 1) && decide (E k 2 = seat)))) := by
  obtain ⟨u0, _, u2, _⟩ := hE.row hk
  have hk' : (k : Int) < (n : Int) := by omega
  have hdr : Hid (∀ m, w.grownBy (w.drewN m) none) := fun m => grown_drew (World.grownBy.refl _ _) m
  clear hE
  by_cases h1 : E k 0 = 1
  · have hd := hide (decide_eq_true h1)
    have h1' : (E k 0 == 1) = true := by simp [h1]
    clear h1
    go_enter Try.func49, Try.ntmps49
    go_wp2_with fail
    go_quiet (fail)
    go_wp2
    go_ret
    exact ⟨ret_bool (by rw [unhide hd, Bool.true_and]; rfl), unhide hdr _⟩
  · have hd := hide (decide_eq_false h1)
    have h1' : (E k 0 == 1) = false := by simp [h1]
    clear h1
    go_enter Try.func49, Try.ntmps49
    go_wp2_with fail
    go_quiet (fail)
    go_wp2
    go_ret
    exact ⟨ret_bool (by rw [unhide hd]; simp), unhide hdr _⟩

end Go.Proofs.Ytbploaihicakeaa
