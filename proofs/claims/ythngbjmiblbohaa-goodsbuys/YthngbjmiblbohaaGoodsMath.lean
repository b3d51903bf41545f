/-
  Items, as numbers: what lies where, what a hero does to them, and that each stays in one place of its own.
-/
import Derived.Test.YthngbjmiblbohaaEntFind
import Derived.Test.YthngbjmiblbohaaGridMem
namespace Go.Proofs.Ythngbjmiblbohaa

namespace Gd

/-- A row of items: kind, where, A, B. -/
def row (k w a b : Int) : Nat → Int
  | 0 => k
  | 1 => w
  | 2 => a
  | 3 => b
  | _ => 0

def gone : Nat → Int := fun _ => 0

def inQ (I : Nat → Nat → Int) (w a b : Int) : Nat → Bool := fun i => decide (I i 1 = w) && (decide (I i 2 = a) && decide (I i 3 = b))

/-- The lowest item in a place; -1: there is none. -/
def find (I : Nat → Nat → Int) (n : Nat) (w a b : Int) : Int := En.first (inQ I w a b) n

/-- The lowest free slot of a seat's bag; -1: there is none. -/
def slot (I : Nat → Nat → Int) (n : Nat) (seat : Int) : Int := En.first (fun b => decide (find I n 2 seat (b : Int) < 0)) 4

def hasQ (I : Nat → Nat → Int) (n : Nat) (seat lo hi : Int) : Nat → Bool := fun b => decide (0 ≤ find I n 2 seat (b : Int)) && (decide (lo ≤ I (find I n 2 seat (b : Int)).toNat 0) && decide (I (find I n 2 seat (b : Int)).toNat 0 ≤ hi))

/-- The item of a kind from lo to hi in the lowest slot that holds one; -1: there is none. -/
def has (I : Nat → Nat → Int) (n : Nat) (seat lo hi : Int) : Int := if 0 ≤ En.first (hasQ I n seat lo hi) 4 then find I n 2 seat (En.first (hasQ I n seat lo hi) 4) else -1

/-- The ware in the lowest slot of the shop; -1: there is none. -/
def ware (I : Nat → Nat → Int) (n : Nat) : Int := if 0 ≤ En.first (fun k => decide (0 ≤ find I n 4 (k : Int) 0)) 3 then find I n 4 (En.first (fun k => decide (0 ≤ find I n 4 (k : Int) 0)) 3) 0 else -1

theorem find_cases (I : Nat → Nat → Int) (n : Nat) (w a b : Int) : (find I n w a b = -1 ∧ ∀ j, j < n → ¬ (I j 1 = w ∧ I j 2 = a ∧ I j 3 = b)) ∨ ∃ k : Nat, k < n ∧ find I n w a b = (k : Int) ∧ I k 1 = w ∧ I k 2 = a ∧ I k 3 = b ∧ ∀ j, j < k → ¬ (I j 1 = w ∧ I j 2 = a ∧ I j 3 = b) := by
  have conv : ∀ j, inQ I w a b j = false → ¬ (I j 1 = w ∧ I j 2 = a ∧ I j 3 = b) := fun j h ⟨h1, h2, h3⟩ => by simp [inQ, h1, h2, h3] at h
  rcases En.first_cases (inQ I w a b) n with ⟨h, hno⟩ | ⟨k, hk, h, hq, hno⟩
  · exact .inl ⟨h, fun j hj => conv j (hno j hj)⟩
  · simp only [inQ, Bool.and_eq_true, decide_eq_true_eq] at hq
    exact .inr ⟨k, hk, h, hq.1, hq.2.1, hq.2.2, fun j hj => conv j (hno j hj)⟩

theorem find_neg {I : Nat → Nat → Int} {n : Nat} {w a b : Int} (h : find I n w a b < 0) : find I n w a b = -1 ∧ ∀ j, j < n → ¬ (I j 1 = w ∧ I j 2 = a ∧ I j 3 = b) := by
  rcases find_cases I n w a b with h' | ⟨k, _, h', _⟩
  · exact h'
  · omega

theorem find_pos {I : Nat → Nat → Int} {n : Nat} {w a b : Int} (h : 0 ≤ find I n w a b) : ∃ k : Nat, k < n ∧ find I n w a b = (k : Int) ∧ I k 1 = w ∧ I k 2 = a ∧ I k 3 = b := by
  rcases find_cases I n w a b with ⟨h', _⟩ | ⟨k, hk, h', h1, h2, h3, _⟩
  · omega
  · exact ⟨k, hk, h', h1, h2, h3⟩

theorem slot_pos {I : Nat → Nat → Int} {n : Nat} {seat : Int} (h : 0 ≤ slot I n seat) : slot I n seat < 4 ∧ ∀ j, j < n → ¬ (I j 1 = 2 ∧ I j 2 = seat ∧ I j 3 = slot I n seat) := by
  unfold slot at *
  rcases En.first_cases (fun b => decide (find I n 2 seat (b : Int) < 0)) 4 with ⟨h', _⟩ | ⟨k, hk, h', hq, _⟩
  · omega
  · rw [h']
    exact ⟨by omega, (find_neg (by simpa using hq)).2⟩

theorem has_pos {I : Nat → Nat → Int} {n : Nat} {seat lo hi : Int} (h : 0 ≤ has I n seat lo hi) : ∃ k : Nat, k < n ∧ has I n seat lo hi = (k : Int) ∧ I k 1 = 2 ∧ I k 2 = seat ∧ 0 ≤ I k 3 ∧ I k 3 < 4 ∧ lo ≤ I k 0 ∧ I k 0 ≤ hi := by
  unfold has at *
  rcases En.first_cases (hasQ I n seat lo hi) 4 with ⟨h', _⟩ | ⟨b, hb, h', hq, _⟩
  · rw [if_neg (by omega)] at h; omega
  · rw [if_pos (by omega), h'] at *
    simp only [hasQ, Bool.and_eq_true, decide_eq_true_eq] at hq
    obtain ⟨k, hk, e, h1, h2, h3⟩ := find_pos hq.1
    rw [e, Int.toNat_natCast] at hq
    exact ⟨k, hk, e, h1, h2, by omega, by omega, hq.2.1, hq.2.2⟩

theorem ware_pos {I : Nat → Nat → Int} {n : Nat} (h : 0 ≤ ware I n) : ∃ k : Nat, k < n ∧ ware I n = (k : Int) ∧ I k 1 = 4 := by
  unfold ware at *
  rcases En.first_cases (fun k => decide (0 ≤ find I n 4 (k : Int) 0)) 3 with ⟨h', _⟩ | ⟨b, hb, h', hq, _⟩
  · rw [if_neg (by omega)] at h; omega
  · rw [if_pos (by omega)] at h ⊢
    obtain ⟨k, hk, e, h1, _⟩ := find_pos h
    exact ⟨k, hk, e, h1⟩

/-- An item that is gone: all zero. -/
def Zero (r : Nat → Int) : Prop := r 0 = 0 ∧ r 1 = 0 ∧ r 2 = 0 ∧ r 3 = 0

/-- An item that is where it may be. -/
def Placed (c : Nat → Int) (r : Nat → Int) : Prop := 1 ≤ r 0 ∧ r 0 ≤ 4 ∧
  ((r 1 = 1 ∧ Gr.inB (r 2) (r 3) = true ∧ Gr.walkB (Gr.at 384 c (r 2) (r 3)) = true) ∨
   (r 1 = 2 ∧ 0 ≤ r 2 ∧ r 2 < 4 ∧ 0 ≤ r 3 ∧ r 3 < 4 ∧ r 0 ≠ 4) ∨
   (r 1 = 3 ∧ 0 ≤ r 2 ∧ r 2 < 4 ∧ (r 0 = 2 ∧ r 3 = 0 ∨ r 0 = 3 ∧ r 3 = 1)) ∨
   (r 1 = 4 ∧ 0 ≤ r 2 ∧ r 2 < 3 ∧ r 3 = 0 ∧ r 0 ≠ 4))

/-- Two items at one place. -/
def Share (r s : Nat → Int) : Prop := r 1 = s 1 ∧ r 2 = s 2 ∧ r 3 = s 3

/-- Items that may be. -/
structure Ok (c : Nat → Int) (n : Nat) (I : Nat → Nat → Int) : Prop where
  each : ∀ i, i < n → Zero (I i) ∨ Placed c (I i)
  one : ∀ i k, i < n → k < n → i ≠ k → I i 1 ≠ 0 → ¬ Share (I k) (I i)

theorem Placed.where_ne {c r : Nat → Int} (h : Placed c r) : r 1 ≠ 0 := by
  obtain ⟨_, _, h | h | h | h⟩ := h <;> omega

theorem Ok.put {c : Nat → Int} {n : Nat} {I : Nat → Nat → Int} (h : Ok c n I) {i : Nat} {r : Nat → Int} (hr : Zero r ∨ (Placed c r ∧ ∀ k, k < n → k ≠ i → ¬ Share (I k) r)) : Ok c n (En.put I i r) := by
  refine ⟨fun k hk => ?_, fun j k hj hk hjk hw hs => ?_⟩
  · by_cases e : k = i
    · rw [e, En.put_same]
      exact hr.imp id And.left
    · rw [En.put_other e]; exact h.each k hk
  · by_cases ej : j = i
    · rw [ej, En.put_same] at hw hs
      rw [En.put_other (by omega)] at hs
      rcases hr with hz | ⟨_, hno⟩
      · exact hw hz.2.1
      · exact hno k hk (by omega) hs
    · rw [En.put_other ej] at hw hs
      by_cases ek : k = i
      · rw [ek, En.put_same] at hs
        rcases hr with hz | ⟨_, hno⟩
        · exact hw (by rw [← hs.1]; exact hz.2.1)
        · exact hno j hj ej ⟨hs.1.symm, hs.2.1.symm, hs.2.2.symm⟩
      · rw [En.put_other ek] at hs
        exact h.one j k hj hk hjk hw hs

/-- Two items change places. -/
theorem Ok.swap {c : Nat → Int} {n : Nat} {I : Nat → Nat → Int} (h : Ok c n I) {i j : Nat} (hij : i ≠ j) {r s : Nat → Int} (hi : i < n) (hj : j < n) (hwi : I i 1 ≠ 0) (hwj : I j 1 ≠ 0) (hr : Placed c r) (hs : Placed c s) (ri : Share r (I j)) (sj : Share s (I i)) : Ok c n (En.put (En.put I j s) i r) := by
  have at_i : En.put (En.put I j s) i r i = r := En.put_same _ _ _
  have at_j : En.put (En.put I j s) i r j = s := by rw [En.put_other (by omega), En.put_same]
  have at_k : ∀ k, k ≠ i → k ≠ j → En.put (En.put I j s) i r k = I k := fun k h1 h2 => by rw [En.put_other h1, En.put_other h2]
  have tr : ∀ {a b d : Nat → Int}, Share a b → Share b d → Share a d := fun h1 h2 => ⟨h1.1.trans h2.1, h1.2.1.trans h2.2.1, h1.2.2.trans h2.2.2⟩
  have sy : ∀ {a b : Nat → Int}, Share a b → Share b a := fun h1 => ⟨h1.1.symm, h1.2.1.symm, h1.2.2.symm⟩
  have hrs : ¬ Share r s := fun e => h.one i j hi hj hij hwi (tr (sy ri) (tr e sj))
  have hk : ∀ k, k < n → k ≠ i → k ≠ j → ¬ Share (I k) r ∧ ¬ Share (I k) s := fun k hk h1 h2 =>
    ⟨fun e => h.one j k hj hk (by omega) hwj (tr e ri), fun e => h.one i k hi hk (by omega) hwi (tr e sj)⟩
  refine ⟨fun k hk => ?_, fun a b ha hb hab hw he => ?_⟩
  · by_cases e1 : k = i
    · rw [e1, at_i]; exact .inr hr
    · by_cases e2 : k = j
      · rw [e2, at_j]; exact .inr hs
      · rw [at_k k e1 e2]; exact h.each k hk
  · by_cases a1 : a = i
    · rw [a1, at_i] at he
      by_cases b2 : b = j
      · rw [b2, at_j] at he; exact hrs (sy he)
      · rw [at_k b (by omega) b2] at he; exact (hk b hb (by omega) b2).1 he
    · by_cases a2 : a = j
      · rw [a2, at_j] at he
        by_cases b1 : b = i
        · rw [b1, at_i] at he; exact hrs he
        · rw [at_k b b1 (by omega)] at he; exact (hk b hb b1 (by omega)).2 he
      · rw [at_k a a1 a2] at he hw
        by_cases b1 : b = i
        · rw [b1, at_i] at he; exact (hk a ha a1 a2).1 (sy he)
        · by_cases b2 : b = j
          · rw [b2, at_j] at he; exact (hk a ha a1 a2).2 (sy he)
          · rw [at_k b b1 b2] at he; exact h.one a b ha hb hab hw he

/-- What an input does to the items: Pick. -/
def pick (I : Nat → Nat → Int) (n : Nat) (seat x y : Int) : Nat → Nat → Int :=
  if 0 ≤ find I n 1 x y ∧ I (find I n 1 x y).toNat 0 = 4 then En.put I (find I n 1 x y).toNat gone
  else if 0 ≤ find I n 1 x y ∧ 0 ≤ slot I n seat then En.put I (find I n 1 x y).toNat (row (I (find I n 1 x y).toNat 0) 2 seat (slot I n seat))
  else I

/-- Use. -/
def use (I : Nat → Nat → Int) (n : Nat) (seat : Int) : Nat → Nat → Int := if 0 ≤ has I n seat 1 1 then En.put I (has I n seat 1 1).toNat gone else I

/-- Wear, of the item i. -/
def wearAt (I : Nat → Nat → Int) (n : Nat) (seat : Int) (i : Nat) : Nat → Nat → Int :=
  if 0 ≤ find I n 3 seat (I i 0 - 2) then En.put (En.put I (find I n 3 seat (I i 0 - 2)).toNat (row (I (find I n 3 seat (I i 0 - 2)).toNat 0) 2 (I (find I n 3 seat (I i 0 - 2)).toNat 2) (I i 3))) i (row (I i 0) 3 (I i 2) (I i 0 - 2))
  else En.put I i (row (I i 0) 3 (I i 2) (I i 0 - 2))

def wear (I : Nat → Nat → Int) (n : Nat) (seat : Int) : Nat → Nat → Int := if 0 ≤ has I n seat 2 3 then wearAt I n seat (has I n seat 2 3).toNat else I

/-- Drop. -/
def drop (I : Nat → Nat → Int) (n : Nat) (seat x y : Int) : Nat → Nat → Int := if 0 ≤ has I n seat 1 3 ∧ find I n 1 x y < 0 then En.put I (has I n seat 1 3).toNat (row (I (has I n seat 1 3).toNat 0) 1 x y) else I

/-- Buy, where the hero may. -/
def buys (I : Nat → Nat → Int) (n : Nat) (seat : Int) (shop : Bool) (gold : Int) : Bool := shop && (decide (5 ≤ gold) && (decide (0 ≤ slot I n seat) && decide (0 ≤ ware I n)))

def buy (I : Nat → Nat → Int) (n : Nat) (seat : Int) (shop : Bool) (gold : Int) : Nat → Nat → Int := if buys I n seat shop gold = true then En.put I (ware I n).toNat (row (I (ware I n).toNat 0) 2 seat (slot I n seat)) else I

/-- All of it. -/
def act (I : Nat → Nat → Int) (n : Nat) (seat x y : Int) (shop : Bool) (gold input : Int) : Nat → Nat → Int :=
  if input = 5 then pick I n seat x y else if input = 6 then use I n seat else if input = 7 then wear I n seat else if input = 8 then drop I n seat x y else if input = 10 then buy I n seat shop gold else I

theorem Ok.of {c : Nat → Int} {n : Nat} {I : Nat → Nat → Int} (h : Ok c n I) {k : Nat} (hk : k < n) (hw : I k 1 ≠ 0) : Placed c (I k) := by
  rcases h.each k hk with hz | hp
  · exact absurd hz.2.1 hw
  · exact hp

theorem zero_gone : Zero gone := ⟨rfl, rfl, rfl, rfl⟩

theorem Ok.pick {c : Nat → Int} {n : Nat} {I : Nat → Nat → Int} (h : Ok c n I) {seat x y : Int} (s0 : 0 ≤ seat) (s4 : seat < 4) : Ok c n (pick I n seat x y) := by
  unfold Gd.pick
  split
  · exact h.put (.inl zero_gone)
  · rename_i hg
    split
    · rename_i hf
      obtain ⟨k, hk, e, h1, h2, h3⟩ := find_pos hf.1
      obtain ⟨f4, hno⟩ := slot_pos hf.2
      have hp := h.of hk (by omega)
      have hg' : I k 0 ≠ 4 := fun e4 => hg ⟨hf.1, by rw [e, Int.toNat_natCast]; exact e4⟩
      rw [e, Int.toNat_natCast]
      refine h.put (.inr ⟨⟨hp.1, hp.2.1, .inr (.inl ⟨rfl, s0, s4, hf.2, f4, hg'⟩)⟩, fun j hj _ hs => hno j hj ⟨hs.1, hs.2.1, hs.2.2⟩⟩)
    · exact h

theorem Ok.use {c : Nat → Int} {n : Nat} {I : Nat → Nat → Int} (h : Ok c n I) (seat : Int) : Ok c n (use I n seat) := by
  unfold Gd.use
  split
  · exact h.put (.inl zero_gone)
  · exact h

theorem Ok.drop {c : Nat → Int} {n : Nat} {I : Nat → Nat → Int} (h : Ok c n I) {seat x y : Int} (hin : Gr.inB x y = true) (hw : Gr.walkB (Gr.at 384 c x y) = true) : Ok c n (drop I n seat x y) := by
  unfold Gd.drop
  split
  · rename_i hf
    obtain ⟨k, hk, e, h1, h2, h3, h4, k1, k3⟩ := has_pos hf.1
    rw [e, Int.toNat_natCast]
    refine h.put (.inr ⟨⟨k1, by show I k 0 ≤ 4; omega, .inl ⟨rfl, hin, hw⟩⟩, fun j hj _ hs => (find_neg hf.2).2 j hj ⟨hs.1, hs.2.1, hs.2.2⟩⟩)
  · exact h

theorem Ok.buy {c : Nat → Int} {n : Nat} {I : Nat → Nat → Int} (h : Ok c n I) {seat : Int} (s0 : 0 ≤ seat) (s4 : seat < 4) (shop : Bool) (gold : Int) : Ok c n (buy I n seat shop gold) := by
  unfold Gd.buy
  split
  · rename_i hb
    simp only [buys, Bool.and_eq_true, decide_eq_true_eq] at hb
    obtain ⟨_, _, hs, hw⟩ := hb
    obtain ⟨k, hk, e, h1⟩ := ware_pos hw
    obtain ⟨f4, hno⟩ := slot_pos hs
    rw [e, Int.toNat_natCast]
    have hp := h.of hk (by omega)
    have hg : I k 0 ≠ 4 := by
      obtain ⟨_, _, h' | h' | h' | h'⟩ := hp <;> omega
    refine h.put (.inr ⟨⟨hp.1, hp.2.1, .inr (.inl ⟨rfl, s0, s4, hs, f4, hg⟩)⟩, fun j hj _ hs => hno j hj ⟨hs.1, hs.2.1, hs.2.2⟩⟩)
  · exact h

theorem Ok.wear {c : Nat → Int} {n : Nat} {I : Nat → Nat → Int} (h : Ok c n I) {seat : Int} (s0 : 0 ≤ seat) (s4 : seat < 4) : Ok c n (wear I n seat) := by
  unfold Gd.wear
  split
  · rename_i hf
    obtain ⟨k, hk, e, h1, h2, h3, h4, k2, k3⟩ := has_pos hf
    rw [e, Int.toNat_natCast]
    unfold wearAt
    have hr : Placed c (row (I k 0) 3 (I k 2) (I k 0 - 2)) := ⟨by show 1 ≤ I k 0; omega, by show I k 0 ≤ 4; omega, .inr (.inr (.inl ⟨rfl, by show 0 ≤ I k 2; omega, by show I k 2 < 4; omega, by
      show I k 0 = 2 ∧ I k 0 - 2 = 0 ∨ I k 0 = 3 ∧ I k 0 - 2 = 1
      omega⟩))⟩
    split
    · rename_i hw
      obtain ⟨j, hj, ej, j1, j2, j3⟩ := find_pos hw
      rw [ej, Int.toNat_natCast]
      have hpj := h.of hj (by omega)
      have hs : Placed c (row (I j 0) 2 (I j 2) (I k 3)) := ⟨hpj.1, hpj.2.1, .inr (.inl ⟨rfl, by show 0 ≤ I j 2; omega, by show I j 2 < 4; omega, h3, h4, by
        show I j 0 ≠ 4
        obtain ⟨_, _, h' | h' | h' | h'⟩ := hpj <;> omega⟩)⟩
      exact h.swap (i := k) (j := j) (by rintro rfl; omega) hk hj (by omega) (by omega) hr hs ⟨j1.symm, by show I k 2 = I j 2; omega, j3.symm⟩ ⟨h1.symm, by show I j 2 = I k 2; omega, rfl⟩
    · rename_i hw
      have hno := (find_neg (I := I) (n := n) (w := 3) (a := seat) (b := I k 0 - 2) (by omega)).2
      exact h.put (.inr ⟨hr, fun j hj _ hs => hno j hj ⟨hs.1, hs.2.1.trans h2, hs.2.2⟩⟩)
  · exact h

theorem Ok.act {c : Nat → Int} {n : Nat} {I : Nat → Nat → Int} (h : Ok c n I) {seat x y : Int} (s0 : 0 ≤ seat) (s4 : seat < 4) (hin : Gr.inB x y = true) (hw : Gr.walkB (Gr.at 384 c x y) = true) (shop : Bool) (gold input : Int) : Ok c n (act I n seat x y shop gold input) := by
  unfold Gd.act
  split
  · exact h.pick s0 s4
  · split
    · exact h.use seat
    · split
      · exact h.wear s0 s4
      · split
        · exact h.drop hin hw
        · split
          · exact h.buy s0 s4 shop gold
          · exact h

/-- At most two rows turn, and a row's kind stays, unless it is gone. -/
def Few (I J : Nat → Nat → Int) : Prop := ∃ i j : Nat, (∀ k, k ≠ i → k ≠ j → J k = I k) ∧ ∀ k, J k 0 = I k 0 ∨ Zero (J k)

theorem few_same (I : Nat → Nat → Int) : Few I I := ⟨0, 0, fun _ _ _ => rfl, fun _ => .inl rfl⟩

theorem few_put (I : Nat → Nat → Int) (i : Nat) (r : Nat → Int) (h : r 0 = I i 0 ∨ Zero r) : Few I (En.put I i r) :=
  ⟨i, i, fun k h1 _ => En.put_other h1, fun k => by
    by_cases e : k = i
    · rw [e, En.put_same]; exact h
    · rw [En.put_other e]; exact .inl rfl⟩

theorem few_two (I : Nat → Nat → Int) (i j : Nat) (r s : Nat → Int) (hr : r 0 = I i 0) (hs : s 0 = I j 0) : Few I (En.put (En.put I j s) i r) :=
  ⟨i, j, fun k h1 h2 => by rw [En.put_other h1, En.put_other h2], fun k => by
    by_cases e : k = i
    · rw [e, En.put_same]; exact .inl hr
    · rw [En.put_other e]
      by_cases e2 : k = j
      · rw [e2, En.put_same]; exact .inl hs
      · rw [En.put_other e2]; exact .inl rfl⟩

theorem act_few (I : Nat → Nat → Int) (n : Nat) (seat x y : Int) (shop : Bool) (gold input : Int) : Few I (act I n seat x y shop gold input) := by
  unfold Gd.act
  split
  · unfold Gd.pick
    split
    · exact few_put _ _ _ (.inr zero_gone)
    · split
      · exact few_put _ _ _ (.inl rfl)
      · exact few_same I
  · split
    · unfold Gd.use
      split
      · exact few_put _ _ _ (.inr zero_gone)
      · exact few_same I
    · split
      · unfold Gd.wear
        split
        · unfold wearAt
          split
          · exact few_two _ _ _ _ _ rfl rfl
          · exact few_put _ _ _ (.inl rfl)
        · exact few_same I
      · split
        · unfold Gd.drop
          split
          · exact few_put _ _ _ (.inl rfl)
          · exact few_same I
        · split
          · unfold Gd.buy
            split
            · exact few_put _ _ _ (.inl rfl)
            · exact few_same I
          · exact few_same I

/-- How many of the first m rows are other than they were. -/
def turned (I J : Nat → Nat → Int) : Nat → Nat
  | 0 => 0
  | m + 1 => turned I J m + if J m 0 = I m 0 ∧ J m 1 = I m 1 ∧ J m 2 = I m 2 ∧ J m 3 = I m 3 then 0 else 1

theorem turned_le {I J : Nat → Nat → Int} {i j : Nat} (h : ∀ k, k ≠ i → k ≠ j → J k = I k) : ∀ m, turned I J m ≤ (if i < m then 1 else 0) + (if j < m then 1 else 0)
  | 0 => by simp [turned]
  | m + 1 => by
      have ih := turned_le h m
      unfold turned
      by_cases e : m = i ∨ m = j
      · have h1 : (if J m 0 = I m 0 ∧ J m 1 = I m 1 ∧ J m 2 = I m 2 ∧ J m 3 = I m 3 then 0 else 1) ≤ 1 := by split <;> omega
        by_cases e1 : m = i
        · rw [if_neg (by omega)] at ih
          rw [if_pos (show i < m + 1 by omega)]
          have : (if j < m then 1 else 0) ≤ (if j < m + 1 then 1 else 0) := by split <;> split <;> omega
          omega
        · have e2 : m = j := by omega
          rw [if_neg (show ¬ j < m by omega)] at ih
          rw [if_pos (show j < m + 1 by omega)]
          have : (if i < m then 1 else 0) ≤ (if i < m + 1 then 1 else 0) := by split <;> split <;> omega
          omega
      · rw [h m (by omega) (by omega), if_pos ⟨rfl, rfl, rfl, rfl⟩]
        have a1 : (if i < m then 1 else 0) ≤ (if i < m + 1 then 1 else 0) := by split <;> split <;> omega
        have a2 : (if j < m then 1 else 0) ≤ (if j < m + 1 then 1 else 0) := by split <;> split <;> omega
        omega

theorem Few.two {I J : Nat → Nat → Int} (h : Few I J) (m : Nat) : turned I J m ≤ 2 := by
  obtain ⟨i, j, h1, _⟩ := h
  have := turned_le h1 m
  split at this <;> split at this <;> omega

/-- Sweep: all that a seat has is gone. -/
def sweep (I : Nat → Nat → Int) (seat : Int) : Nat → Nat → Int := fun i => if (I i 1 = 2 ∨ I i 1 = 3) ∧ I i 2 = seat then gone else I i

theorem Ok.sweep {c : Nat → Int} {n : Nat} {I : Nat → Nat → Int} (h : Ok c n I) (seat : Int) : Ok c n (Gd.sweep I seat) := by
  have z : ∀ {i}, ((I i 1 = 2 ∨ I i 1 = 3) ∧ I i 2 = seat) → Gd.sweep I seat i = gone := fun h => if_pos h
  have o : ∀ {i}, ¬ ((I i 1 = 2 ∨ I i 1 = 3) ∧ I i 2 = seat) → Gd.sweep I seat i = I i := fun h => if_neg h
  refine ⟨fun i hi => ?_, fun i k hi hk hik hw hs => ?_⟩
  · by_cases e : (I i 1 = 2 ∨ I i 1 = 3) ∧ I i 2 = seat
    · rw [z e]; exact .inl zero_gone
    · rw [o e]; exact h.each i hi
  · by_cases e : (I i 1 = 2 ∨ I i 1 = 3) ∧ I i 2 = seat
    · rw [z e] at hw; exact hw rfl
    · rw [o e] at hw hs
      by_cases ek : (I k 1 = 2 ∨ I k 1 = 3) ∧ I k 2 = seat
      · rw [z ek] at hs; exact hw hs.1.symm
      · rw [o ek] at hs; exact h.one i k hi hk hik hw hs

end Gd

end Go.Proofs.Ythngbjmiblbohaa
