/-
  A list that has been handed out lies apart; the four seats of a datagram.
-/
import Derived.Test.YtiegccdgoemamaaWireUp
import Derived.Test.YtiegccdgoemamaaWireTrade
import Derived.Test.YtiegccdgoemamaaWireListRec
namespace Go.Proofs.Ytiegccdgoemamaa
open Go.RowKit

/-- A block that nobody reaches any more but who holds it. -/
def Wr.Far (w x : World) (B : Nat → Prop) (M Z O : Nat) (o : Obj) : Prop := w.heap.size ≤ O ∧ O ≠ M ∧ O ≠ Z ∧ ¬ B O ∧ O < x.heap.size ∧ x.heap[O]? = some o

section
variable {T : TypeId} {v : Value} {f : FuncId} {σ : Type} {step : σ → Int → Int → Int → Int → σ × Int} {H : World → σ → (Nat → Prop) → Prop} {Lv : σ → Prop} {w x y : World} {s : σ} {B C : Nat → Prop} {M Z O : Nat} {o : Obj}

theorem Wr.Far.next (h : Wr.Far w x B M Z O o) (hk : Wr.K x B y C) : Wr.Far w y C M Z O o :=
  ⟨h.1, h.2.1, h.2.2.1, fun q => (hk.own O q).elim h.2.2.2.1 (fun q => absurd h.2.2.2.2.1 (by omega)), Nat.lt_of_lt_of_le h.2.2.2.2.1 hk.turn.size, (hk.turn.block O h.2.2.2.2.1 h.2.2.2.1).trans h.2.2.2.2.2⟩

theorem Wr.Far.turn {D : Nat → Prop} (h : Wr.Far w x B M Z O o) (ht : Turn D x y) (hD : ¬ D O) : Wr.Far w y B M Z O o :=
  ⟨h.1, h.2.1, h.2.2.1, h.2.2.2.1, Nat.lt_of_lt_of_le h.2.2.2.2.1 ht.size, (ht.block O h.2.2.2.2.1 hD).trans h.2.2.2.2.2⟩

theorem Wr.Far.put (h : Wr.Far w x B M Z O o) (k : Nat) (u : Value) : Wr.Far w (x.setCell ⟨M, k, none⟩ u) B M Z O o :=
  h.turn (D := fun b => b = M) ((Turn.refl _ x).store M k u rfl) h.2.1

theorem Wr.Far.on (h : Wr.Far w x B M Z O o) (hg : x.grownBy y none) : Wr.Far w y B M Z O o :=
  h.turn (Turn.new (B := fun _ => False) hg) (fun q => q)

theorem Wr.Far.last (h : Wr.Far w x B M Z O o) (vs : List Value) : (x.setCells Z 0 vs).heap[O]? = some o :=
  ((Wr.turn_cells Z vs 0 x).block O h.2.2.2.2.1 h.2.2.1).trans h.2.2.2.2.2

theorem Wr.In.far {B' D : Nat → Prop} {R m : Nat} {ty : TypeId} {F : Nat → Value} (h : Wr.In H w x B s B' T v R M Z ty m F) (hO : x.heap.size ≤ O) (hD : ¬ D O) (ho : y.heap[O]? = some o) : Wr.Far w y D M Z O o := by
  have q1 := h.box.lt
  obtain ⟨q, hq⟩ := h.res
  have q2 := hq.lt
  have q3 := h.low.2.1
  exact ⟨by omega, by omega, by omega, hD, (Array.getElem?_eq_some_iff.1 ho).1, ho⟩

/-- A seat's number and its row. -/
def Wr.seatS (step : σ → Int → Int → Int → Int → σ × Int) (s : σ) (n : Int) (len : Nat) (z : Nat → Int) : σ × Int × List Int :=
  let p := step s n 4 0 1073741823
  let q := Wr.listS step (Wr.input step) p.1 len 1 255 z
  (q.1, p.2, q.2)

/-- The side behind so many seats. -/
def Wr.seatsT (step : σ → Int → Int → Int → Int → σ × Int) (s : σ) (n : Nat → Int) (len : Nat → Nat) (z : Nat → Nat → Int) : Nat → σ
  | 0 => s
  | i + 1 => (Wr.seatS step (Wr.seatsT step s n len z i) (n i) (len i) (z i)).1

def Wr.seatsO (step : σ → Int → Int → Int → Int → σ × Int) (s : σ) (n : Nat → Int) (len : Nat → Nat) (z : Nat → Nat → Int) (i : Nat) : Int × List Int :=
  (Wr.seatS step (Wr.seatsT step s n len z i) (n i) (len i) (z i)).2

theorem Wr.seatS_first (h : Wr.Side T v f step H Lv) {n : Int} {len : Nat} {z : Nat → Int} (q : Lv (Wr.seatS step s n len z).1) : Lv (step s n 4 0 1073741823).1 :=
  Wr.listS_back h (Wr.input_back h) _ _ _ _ (show Lv (Wr.listS step (Wr.input step) (step s n 4 0 1073741823).1 len 1 255 z).1 from q)

theorem Wr.seatsT_back (h : Wr.Side T v f step H Lv) {n : Nat → Int} {len : Nat → Nat} {z : Nat → Nat → Int} (j : Nat) : ∀ i, j ≤ i → Lv (Wr.seatsT step s n len z i) → Lv (Wr.seatsT step s n len z j)
  | 0, e, q => by obtain rfl : j = 0 := by omega
                  exact q
  | i + 1, e, q => by
    by_cases e2 : j = i + 1
    · subst e2; exact q
    · exact Wr.seatsT_back h j i (by omega) (h.back _ _ _ _ _ (Wr.seatS_first h q))

end

/-- The numbers of the first i seats, the rows of the first j, are others. -/
def Wr.G.seats (g : Wr.G) (f : Nat → Int) (u : Nat → Option Addr × Nat × Nat) (i j : Nat) : Wr.G :=
  { g with n := fun q => if 18 ≤ q ∧ q < 18 + i then f (q - 18) else g.n q, row := fun q => if 1 ≤ q ∧ q < 1 + j then u (q - 1) else g.row q }

theorem Wr.G.seats_zero (g : Wr.G) (f : Nat → Int) (u : Nat → Option Addr × Nat × Nat) : g.seats f u 0 0 = g := by
  have e1 : (fun q => if 18 ≤ q ∧ q < 18 + 0 then f (q - 18) else g.n q) = g.n := by funext q; rw [if_neg (by omega)]
  have e2 : (fun q => if 1 ≤ q ∧ q < 1 + 0 then u (q - 1) else g.row q) = g.row := by funext q; rw [if_neg (by omega)]
  unfold Wr.G.seats
  rw [e1, e2]

theorem Wr.G.seats_num (g : Wr.G) (f : Nat → Int) (u : Nat → Option Addr × Nat × Nat) (i j : Nat) : (g.seats f u i j).num (18 + i) (f i) = g.seats f u (i + 1) j := by
  have e : (fun q => if q = 18 + i then f i else (if 18 ≤ q ∧ q < 18 + i then f (q - 18) else g.n q)) = fun q => if 18 ≤ q ∧ q < 18 + (i + 1) then f (q - 18) else g.n q := by
    funext q
    by_cases h : q = 18 + i
    · rw [if_pos h, if_pos (by omega), show q - 18 = i by omega]
    · by_cases h2 : 18 ≤ q ∧ q < 18 + i
      · rw [if_neg h, if_pos h2, if_pos (by omega)]
      · rw [if_neg h, if_neg h2, if_neg (by omega)]
  show ({ g with n := (fun q => if q = 18 + i then f i else (if 18 ≤ q ∧ q < 18 + i then f (q - 18) else g.n q)), row := fun q => if 1 ≤ q ∧ q < 1 + j then u (q - 1) else g.row q } : Wr.G) = _
  rw [e]
  rfl

theorem Wr.G.seats_row (g : Wr.G) (f : Nat → Int) (u : Nat → Option Addr × Nat × Nat) (i j : Nat) : ({ g.seats f u i j with row := fun q => if q = 1 + j then u j else (g.seats f u i j).row q } : Wr.G) = g.seats f u i (j + 1) := by
  have e : (fun q => if q = 1 + j then u j else (if 1 ≤ q ∧ q < 1 + j then u (q - 1) else g.row q)) = fun q => if 1 ≤ q ∧ q < 1 + (j + 1) then u (q - 1) else g.row q := by
    funext q
    by_cases h : q = 1 + j
    · rw [if_pos h, if_pos (by omega), show q - 1 = j by omega]
    · by_cases h2 : 1 ≤ q ∧ q < 1 + j
      · rw [if_neg h, if_pos h2, if_pos (by omega)]
      · rw [if_neg h, if_neg h2, if_neg (by omega)]
  show ({ g with n := (fun q => if 18 ≤ q ∧ q < 18 + i then f (q - 18) else g.n q), row := fun q => if q = 1 + j then u j else (if 1 ≤ q ∧ q < 1 + j then u (q - 1) else g.row q) } : Wr.G) = _
  rw [e]
  rfl

theorem Wr.G.seats_box (g : Wr.G) (f : Nat → Int) (u : Nat → Option Addr × Nat × Nat) (i j : Nat) (hj : j < 4) : (fun c => if c = 22 + j then Value.slice (u j).1 (u j).2.1 (u j).2.2 else (g.seats f u i j).box c) = (g.seats f u i (j + 1)).box := by
  have e := Wr.G.seats_row g f u i j
  rcases (show j = 0 ∨ j = 1 ∨ j = 2 ∨ j = 3 by omega) with rfl | rfl | rfl | rfl
  · exact (Wr.G.set22_box (g.seats f u i 0) (u 0)).trans (congrArg Wr.G.box e)
  · exact (Wr.G.set23_box (g.seats f u i 1) (u 1)).trans (congrArg Wr.G.box e)
  · exact (Wr.G.set24_box (g.seats f u i 2) (u 2)).trans (congrArg Wr.G.box e)
  · exact (Wr.G.set25_box (g.seats f u i 3) (u 3)).trans (congrArg Wr.G.box e)

theorem Wr.G.seats_congr (g : Wr.G) (f : Nat → Int) (u u' : Nat → Option Addr × Nat × Nat) (i j : Nat) (h : ∀ q, q < j → u q = u' q) : g.seats f u i j = g.seats f u' i j := by
  have e : (fun q => if 1 ≤ q ∧ q < 1 + j then u (q - 1) else g.row q) = fun q => if 1 ≤ q ∧ q < 1 + j then u' (q - 1) else g.row q := by
    funext q
    by_cases h2 : 1 ≤ q ∧ q < 1 + j
    · rw [if_pos h2, if_pos h2, h _ (by omega)]
    · rw [if_neg h2, if_neg h2]
  unfold Wr.G.seats
  rw [e]

/-- So many rows that lie apart, as the cells of seats. -/
def Wr.seatU (O : Nat → Nat) (L : Nat → List Int) (q : Nat) : Option Addr × Nat × Nat := (some ⟨O q, 0, none⟩, (L q).length, (L q).length)

/-- A row of numbers as a block. -/
def Wr.rowObj (l : List Int) : Obj := .cells (l.map (Value.int .i64)).toArray 3 (0, 0)

end Go.Proofs.Ytiegccdgoemamaa
